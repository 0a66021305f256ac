import Derived.Test.YtoeggiplcaegoaaGreatDoorZ0
import Derived.Handy
import Derived.Laws.BytesArg
import Derived.Laws.AppendOwnNone
import Derived.Lib.Hide
import Derived.Deep.QuietTactic
import Derived.BigQuiet
import Derived.OpenShut
import Derived.Deep.RegionWith
import Derived.WalkSpells
import Derived.Test.YtoeggiplcaegoaaGreatDoorProg
import Derived.Lib.LazyBuf
import Derived.Carry
import Derived.LaidMore
import Derived.LaidHandle
import Derived.Stop.Joined
import Derived.StillTail
import Derived.Below
import Derived.Laws.Tables
import Derived.Laws.Rows
import Derived.Deep.WholeRow
import Derived.Laws.AppendOwn
import Derived.OneCell
import Derived.Laws.OwnMore
import Derived.Deep.Slices
import Derived.Deep.Strs
import Derived.KernelRfl
import Derived.OwnWalkIn
import Derived.OrdersIn
import Derived.RangeFuncCalls
import Derived.Deep.MidRow
import Derived.Laws.StructEq
import Derived.ChangeKeysEq
import Derived.StillTailTactics
import Derived.RangeFuncNested
import Derived.RangeFuncBound
import Derived.RangeFuncLeaves
import Derived.WalkKit
import Derived.TacticsInMore
import Derived.LoopNIn
import Derived.LoopIn
import Derived.Shelf.Abstract
import Derived.Shelf.RegionOpen
set_option maxRecDepth 100000
set_option linter.unusedVariables false
set_option linter.unusedSimpArgs false
set_option maxHeartbeats 2000000
namespace Go.Proofs.YtoeggiplcaegoaaGreatDoor
open Go.RowKit Go.ChangeShapes Go.WideShapes
theorem al{a b:Value}(h:a=b):Ending.returned a=.returned b:=by rw [h]
def Held(k:IntKind)(w:World)(v:Value)(xs:List Int):Prop :=
 ∃ ao cap,v=.slice ao xs.length cap/\(ao=none->xs=[]/\cap=0)/\∀ i,i<xs.length->∃ b off,ao=some ⟨b,off,none⟩/\b<w.heap.size/\w.cell? ⟨b,off+i,none⟩=some (.int k (xs.getD i 0))
theorem Held.nil(k:IntKind)(w:World):Held k w (.slice none 0 0) []:=⟨none,0,rfl,fun _=>⟨rfl,rfl⟩,fun i hi=>by simp at hi⟩
theorem ik{k:IntKind}{w:World}{b off cap:Nat}{xs:List Int}(hlt:b<w.heap.size)(hc:∀ i,i<xs.length->w.cell? ⟨b,off+i,none⟩=some (.int k (xs.getD i 0))):Held k w (.slice (some ⟨b,off,none⟩) xs.length cap) xs :=
 ⟨_,cap,rfl,(fun h=>by cases h),fun i hi=>⟨b,off,rfl,hlt,hc i hi⟩⟩
theorem Held.below{k:IntKind}{w w':World}{v:Value}{xs:List Int}(h:Held k w v xs)(hb:Below w.heap.size w w'):Held k w' v xs:=by
 obtain ⟨ao,cap,rfl,hn,hc⟩:=h;refine ⟨ao,cap,rfl,hn,fun i hi=>?_⟩;obtain ⟨b,off,rfl,hlt,hcell⟩:=hc i hi;exact ⟨b,off,rfl,by have:=hb.size;omega,(hb.cell (p:=⟨b,off+i,none⟩) hlt).trans hcell⟩
theorem Held.len{k:IntKind}{w:World}{v:Value}{xs:List Int}(h:Held k w v xs):∃ ao cap,v=.slice ao xs.length cap:=by
 obtain ⟨ao,cap,rfl,_⟩:=h;exact ⟨ao,cap,rfl⟩
theorem Held.view{k:IntKind}{w:World}{v:Value}{xs:List Int}(h:Held k w v xs) :
  ∃ ao cap,v=.slice ao xs.length cap/\∀ i,i<xs.length->∃ b off,ao=some ⟨b,off,none⟩/\b<w.heap.size/\w.cell? ⟨b,off+i,none⟩=some (.int k (xs.getD i 0)):=by
 obtain ⟨ao,cap,rfl,_,hc⟩:=h;exact ⟨ao,cap,rfl,hc⟩
theorem Held.spots{k:IntKind}{w:World}{ao:Option Addr}{n cap:Nat}{xs:List Int}(h:Held k w (.slice ao n cap) xs) :
  ∀ i,i<xs.length->∃ b off,ao=some ⟨b,off,none⟩/\b<w.heap.size/\w.cell? ⟨b,off+i,none⟩=some (.int k (xs.getD i 0)):=by
 obtain ⟨ao',cap',he,_,hc⟩:=h
 cases he
 exact hc
theorem bF{k:IntKind}{w:World}{B e:Nat}{v:Value}{n:Nat}{xs:List Int}(h:w.ownsRow B e 1 v n (xs.map (Value.int k))):Held k w v xs:=by
 have hl:xs.length=n:=by have:=h.1;simpa using this
 subst hl
 rcases h.2 with ⟨rfl,hn⟩ | ⟨g,cap,cur,rfl,hb,hg,h1,h2,h3,h4⟩
 ·have:xs=[]:=List.eq_nil_of_length_eq_zero hn;subst this;exact Held.nil k w
 ·refine ik (Array.getElem?_eq_some_iff.1 hg).1 fun i hi=>?_
  have:=h.cells (g:=g) rfl i (.int k (xs.getD i 0)) (by simp [List.getElem?_eq_getElem hi]);rw [Addr.add_lit] at this
  simpa using this
theorem aA{w w':World}{B e size:Nat}{v:Value}{n:Nat}{xs:List Value}(h:w.ownsRow B e size v n xs)(hb:Below w.heap.size w w'):w'.ownsRow B e size v n xs:=by
 refine ⟨h.1,?_⟩
 rcases h.2 with hn | ⟨g,cap,cur,rfl,hB,hg,rest⟩
 ·exact .inl hn
 ·exact .inr ⟨g,cap,cur,rfl,hB,(hb.block g (Array.getElem?_eq_some_iff.1 hg).1).trans hg,rest⟩
theorem il(w:World)(C:List Value)(t:TypeId):∀ j u,C[j]? = some u->(w.alloc (.cells C.toArray t)).cell? ((⟨w.heap.size,0,none⟩ : Addr).add j)=some u:=by
 intro j u hj;rw [Addr.add_lit,cell_of_row (w.alloc (.cells C.toArray t)) w.heap.size (0+j) C.toArray t (0,0) (heap_alloc_new w _)]
 simpa using hj
theorem bK{P:Program}(w0:World){ops:Array Oper}{rest:List Oper}{o:Oper}{a:Act}{Q:Exit->Act->World->Prop}(hgd:o.guard=none)(s x:Operand)(t:TypeId)
  (ho:o.op=.call { callee:=.builtin .append,args:=#[s,x],argTypes:=#[t,t] })
  (base:Nat) (e:TypeId) (z:Value) (bytes:Nat) (ht:P.underlying t=some (.slice e)) (CB:(P.info? e).map (fun i=>(i.zero,i.size,i.bytes))=some (some z,1,bytes)) (hzs:z.cells.size=1)
  (v:Value) (n:Nat) (xs:List Value) (hs:a.eval s=v) (hown:w0.ownsRow base e 1 v n xs)
  (C:List Value) (m c:Nat) (hx:a.eval x=.slice (some ⟨w0.heap.size,0,none⟩) m c) (hl:C.length=m) (h1:∀ u ∈ C,u.oneCell'=true)
  (hbytes:(n+m) * bytes<=140737488355328) (hb0:n+m<=140737488355328) (hbase:base<=w0.heap.size)
  (h:∀ v' w',w'.ownsRow base e 1 v' (n+m) (xs++C)->Below base w0 w'->wpList P ops Q rest (a.put o.dst v') w') :
  wpList P ops Q (o :: rest) a (w0.alloc (.cells C.toArray e)):=by
 obtain ⟨i0,hi,hz0,hz1,hz2⟩:=info_parts CB;refine wpList_append_own _ hgd s x t ho base e i0 z 1 bytes ht hi hz0 hz1 hz2 hzs (by decide) v n xs hs (hown.alloc _) ⟨w0.heap.size,0,none⟩ m c C hx (by omega) (il w0 C e) h1 (by unfold maxLen;omega) hbytes (by simp;omega) ?_;intro v' w' hown' hgrow _;refine h v' w' hown' (((Below.refl base w0).alloc hbase _).grown hgrow (by simp;omega) fun k hk=>((hown.alloc (.cells C.toArray e)).lt k hk).1)
theorem gQ(k:IntKind)(w:World)(C:List Value)(t:TypeId)(n cap:Nat)(xs:List Int)(hC:C=xs.map (Value.int k))(hn:xs.length=n):Held k (w.alloc (.cells C.toArray t)) (.slice (some ⟨w.heap.size,0,none⟩) n cap) xs:=by
 subst hC hn;refine ik (by simp) fun i hi=>?_
 have:=il w (xs.map (Value.int k)) t i (.int k (xs.getD i 0)) (by simp [List.getElem?_eq_getElem hi]);rw [Addr.add_lit] at this;exact this
theorem zZ{B:Nat}{w w':World}(h:Below B w.drew w'):Below B w w':=⟨h.os,h.tape,h.output,h.size,h.block⟩
theorem cW{P:Program}(w:World){ops:Array Oper}{rest:List Oper}{o:Oper}{a:Act}{Q:Exit->Act->World->Prop}(hgd:o.guard=none)(s x:Operand)(t:TypeId)
  (ho:o.op=.call { callee:=.builtin .append,args:=#[s,x],argTypes:=#[t,t] })
  (base:Nat) (e:TypeId) (z:Value) (bytes:Nat) (ht:P.underlying t=some (.slice e)) (CB:(P.info? e).map (fun i=>(i.zero,i.size,i.bytes))=some (some z,1,bytes)) (hzs:z.cells.size=1)
  (k:IntKind) (v:Value) (n:Nat) (xs:List Int) (hs:a.eval s=v) (hown:w.ownsRow base e 1 v n (xs.map (Value.int k)))
  (u:Value) (ys:List Int) (hx:a.eval x=u) (hu:Held k w u ys)
  (hbytes:(n+ys.length) * bytes<=140737488355328) (hb0:n+ys.length<=140737488355328) (hbase:base<=w.heap.size)
  (h:∀ v' w',w'.ownsRow base e 1 v' (n+ys.length) ((xs++ys).map (Value.int k))->Below base w w'->wpList P ops Q rest (a.put o.dst v') w') :
  wpList P ops Q (o :: rest) a w:=by
 obtain ⟨i0,hi,hz0,hz1,hz2⟩:=info_parts CB;obtain ⟨ao,cap,rfl,hn,hc⟩:=hu
 cases ao with
 |none =>
  obtain ⟨rfl,rfl⟩:=hn rfl;exact wpList_append_own_none hgd s x t ho base e i0 1 ht hi v n _ hs hown hx (h v w (by simpa using hown) (Below.refl _ _))
 |some ad =>
  refine wpList_append_own _ hgd s x t ho base e i0 z 1 bytes ht hi hz0 hz1 hz2 hzs (by decide) v n _ hs hown ad ys.length cap (ys.map (Value.int k)) hx (by simp) ?_ (ints_oneCell k ys) (by unfold maxLen;omega) hbytes hbase ?_
  ·intro j y hj;have Jr:j<ys.length:=by
    rcases Nat.lt_or_ge j ys.length with h | h
    ·exact h
    ·simp [List.getElem?_eq_none (show (ys.map (Value.int k)).length<=j by simpa using h)] at hj
   obtain ⟨b,off,e1,_,h1⟩:=hc j Jr
   cases e1
   rw [Addr.add_lit,h1]
   simp [List.getElem?_eq_getElem Jr] at hj
   subst hj
   simp [List.getD,List.getElem?_eq_getElem Jr]
  ·intro v' w' hown' hgrow _;exact h v' w' (by simpa using hown') ((Below.refl base w).grown hgrow hbase fun j hj=>(hown.lt j hj).1)
def AN(k:IntKind)(w:World)(xs:List Int)(e:Ending)(w':World):Prop:=∃ v',e=.returned v'/\Held k w' v' xs/\Below w.heap.size w w'
def Gives(w:World)(v:Value)(e:Ending)(w':World):Prop:=e=.returned v/\Below w.heap.size w w'
theorem _root_.Go.RowKit.Below.drewN{B:Nat}{w w':World}(h:Below B w w')(n:Nat):Below B w (w'.drewN n):=⟨h.os,h.tape,h.output,h.size,h.block⟩
theorem zP{P:Program}{f:FuncId}{args:Array Value}{w:World}{n:Nat}{v:Value}
  (h:Calls P f args (w.drewN n) fun e w'=>e=.returned v/\w.drewN n=w'):Calls P f args (w.drewN n) fun e w''=>e=.returned v/\∃ m,w''=w.drewN m :=
 h.mono fun _ _ ⟨he,hm⟩=>⟨he,n,hm.symm⟩
theorem re(k:IntKind)(w:World)(g:Nat)(C:List Value)(t:TypeId)(n cap:Nat)(xs:List Int)(hg:g=w.heap.size)(hC:C=xs.map (Value.int k))(hn:xs.length=n):Held k (w.alloc (.cells C.toArray t)) (.slice (some ⟨g,0,none⟩) n cap) xs:=by
 subst hg;exact gQ k w C t n cap xs hC hn
theorem mP(a:Nat)(h:a<4294967296):(BitVec.ofInt 32 (a:Int)).toNat=a:=by
 rw [BitVec.toNat_ofInt];omega
theorem pf(a x:Int)(h0:0<=a)(h1:a<1073741824)(ha:a % 64=0)(x0:0<=x)(x1:x<64):bits .or .i32 a x=a+x:=by
 obtain ⟨A,rfl⟩:=Int.eq_ofNat_of_zero_le h0;obtain ⟨X,rfl⟩:=Int.eq_ofNat_of_zero_le x0;show IntKind.i32.wrap ((BitVec.ofInt 32 (A:Int) ||| BitVec.ofInt 32 (X:Int)).toNat:Int)=_;rw [BitVec.toNat_or,mP A (by omega),mP X (by omega),nat_join 6 A X (by omega) (by omega),IntKind.wrap_i32];omega
theorem pg(x:Int)(x0:0<=x)(x1:x<=255):bits .and .u8 x 63=x % 64:=by
 rw [u8_and x 63 x0 (by omega) (by decide) (by decide)];have:x.toNat &&& (63:Int).toNat=x.toNat % 2 ^ 6:=Nat.and_two_pow_sub_one_eq_mod x.toNat 6;rw [this];omega
def Fresh(B:Nat)(v:Value):Prop:=∀ a n c,v=.slice (some a) n c->B<=a.block
theorem Fresh.nil(B:Nat)(n c:Nat):Fresh B (.slice none n c):=fun a _ _ h=>by cases h
theorem Fresh.at_(B g off n c:Nat)(h:B<=g):Fresh B (.slice (some ⟨g,off,none⟩) n c):=fun a _ _ e=>by cases e;exact h
theorem Fresh.mono{B B':Nat}{v:Value}(h:Fresh B v)(hb:B'<=B):Fresh B' v:=fun a n c e=>Nat.le_trans hb (h a n c e)
theorem Fresh.ofOwn{w:World}{B e size:Nat}{v:Value}{n:Nat}{xs:List Value}(h:w.ownsRow B e size v n xs):Fresh B v:=by
 rcases h.2 with ⟨rfl,_⟩ | ⟨g,cap,cur,rfl,hB,_⟩
 ·exact Fresh.nil _ _ _
 ·exact Fresh.at_ _ _ _ _ _ hB
def bA(br ea:Int):Int:=if br=1\/br=2\/br=3\/br=4\/br=5\/br=10\/br=11 then 0 else if ea=1\/ea=2 then 2 else 1
theorem pU(br ea:Int):(br=1/\bA br ea=0)\/(br=2/\bA br ea=0)\/(br=3/\bA br ea=0)\/(br=4/\bA br ea=0)\/(br=5/\bA br ea=0)\/(br=10/\bA br ea=0)\/(br=11/\bA br ea=0)
  \/ ((br == 1)=false/\(br == 2)=false/\(br == 3)=false/\(br == 4)=false/\(br == 5)=false/\(br == 10)=false/\(br == 11)=false/\(ea=1/\bA br ea=2\/(ea == 1)=false/\ea=2/\bA br ea=2\/(ea == 1)=false/\(ea == 2)=false/\bA br ea=1)):=by
 unfold bA
 by_cases h1:br=1
 ·exact .inl ⟨h1,by simp [h1]⟩
 by_cases h2:br=2
 ·exact .inr (.inl ⟨h2,by simp [h2]⟩)
 by_cases h3:br=3
 ·exact .inr (.inr (.inl ⟨h3,by simp [h3]⟩))
 by_cases h4:br=4
 ·exact .inr (.inr (.inr (.inl ⟨h4,by simp [h4]⟩)))
 by_cases h5:br=5
 ·exact .inr (.inr (.inr (.inr (.inl ⟨h5,by simp [h5]⟩))))
 by_cases h10:br=10
 ·exact .inr (.inr (.inr (.inr (.inr (.inl ⟨h10,by simp [h10]⟩)))))
 by_cases h11:br=11
 ·exact .inr (.inr (.inr (.inr (.inr (.inr (.inl ⟨h11,by simp [h11]⟩))))))
 refine .inr (.inr (.inr (.inr (.inr (.inr (.inr ⟨by simpa using h1,by simpa using h2,by simpa using h3,by simpa using h4,by simpa using h5,by simpa using h10,by simpa using h11,?_⟩))))))
 by_cases e1:ea=1
 ·exact .inl ⟨e1,by simp [h1,h2,h3,h4,h5,h10,h11,e1]⟩
 by_cases e2:ea=2
 ·exact .inr (.inl ⟨by simpa using e1,e2,by simp [h1,h2,h3,h4,h5,h10,h11,e2]⟩)
 ·exact .inr (.inr ⟨by simpa using e1,by simpa using e2,by simp [h1,h2,h3,h4,h5,h10,h11,e1,e2]⟩)
theorem zf(br:Int)(b:Bool)(cv ea:Int)(w:World):Calls Tryz.prog 238 #[.agg #[.int .i64 br,.bool b,.int .i64 cv,.int .i64 ea]] w (Gives w (.int .i64 (bA br ea))):=by
 have hbl:∀ o,Below w.heap.size w (w.alloc o):=fun o=>AU _ o
 have Ca:=ab hbl;clear hbl
 rcases pU br ea with ⟨rfl,hs⟩ | ⟨rfl,hs⟩ | ⟨rfl,hs⟩ | ⟨rfl,hs⟩ | ⟨rfl,hs⟩ | ⟨rfl,hs⟩ | ⟨rfl,hs⟩ | ⟨h1,h2,h3,h4,h5,h6,h7,⟨rfl,hs⟩ | ⟨h8,rfl,hs⟩ | ⟨h8,h9,hs⟩⟩
 all_goals
  rw [hs];clear hs
  go_enter Tryz.func238,Tryz.ntmps238
  go_wp2;go_ret;exact ⟨af,Ca.out _⟩
def dC(told pic:Bool)(r br:Int)(pc:Bool)(ea:Int):Bool:=bA br ea == 2 || ((r == 65039 && pic) || (told && (pc || br == 6)))
theorem uk(told pic:Bool)(r br:Int)(pc:Bool)(ea:Int):((bA br ea == 2)=true/\dC told pic r br pc ea=true)\/((bA br ea == 2)=false/\(r == 65039)=true/\pic=true/\dC told pic r br pc ea=true)
  \/ ((bA br ea == 2)=false/\((r == 65039)=true/\pic=false\/(r == 65039)=false)/\(told=false/\dC told pic r br pc ea=false\/told=true/\pc=true/\dC told pic r br pc ea=true\/told=true/\pc=false/\dC told pic r br pc ea=(br == 6))):=by
 unfold dC
 cases h1:(bA br ea == 2) <;> cases h2:(r == 65039) <;> cases pic <;> cases told <;> cases pc <;> simp
def bT(r:Int):Bool:=(decide (0<=r) && decide (r<=31)) || (decide (127<=r) && decide (r<=159))
theorem mY(r:Int):(decide (0<=r)=true/\decide (r<=31)=true/\bT r=true)\/(decide (0<=r)=true/\decide (r<=31)=false/\decide (127<=r)=true/\decide (r<=159)=true/\bT r=true)
  \/ (decide (0<=r)=true/\decide (r<=31)=false/\decide (127<=r)=true/\decide (r<=159)=false/\bT r=false)\/(decide (0<=r)=true/\decide (r<=31)=false/\decide (127<=r)=false/\bT r=false)
  \/ (decide (0<=r)=false/\decide (127<=r)=false/\bT r=false):=by
 unfold bT;simp only [decide_eq_true_eq,decide_eq_false_iff_not,Bool.or_eq_true,Bool.and_eq_true,Bool.or_eq_false_iff,Bool.and_eq_false_iff];omega
theorem lO(r:Int)(w:World):Calls Tryz.prog 147 #[.int .i32 r] w (Gives w (.bool (bT r))):=by
 rcases mY r with ⟨h1,h2,hs⟩ | ⟨h1,h2,h3,h4,hs⟩ | ⟨h1,h2,h3,h4,hs⟩ | ⟨h1,h2,h3,hs⟩ | ⟨h1,h2,hs⟩
 all_goals
  have HS:=ab hs;clear hs
  go_enter Tryz.func147,Tryz.ntmps147
  go_wp2;go_ret;exact ⟨al (by rw [HS.out];first | rfl | simp),Below.refl _ _⟩
theorem eY(r:Int)(w:World):Calls Tryz.prog 91 #[.int .i32 r] w (Gives w (.bool (bT r))):=by
 rcases mY r with ⟨h1,h2,hs⟩ | ⟨h1,h2,h3,h4,hs⟩ | ⟨h1,h2,h3,h4,hs⟩ | ⟨h1,h2,h3,hs⟩ | ⟨h1,h2,hs⟩
 all_goals
  have HS:=ab hs;clear hs
  go_enter Tryz.func91,Tryz.ntmps91
  go_wp2;go_ret;exact ⟨al (by rw [HS.out];first | rfl | simp),Below.refl _ _⟩
end Go.Proofs.YtoeggiplcaegoaaGreatDoor
namespace Go.Proofs.YtoeggiplcaegoaaGreatDoor
def aS(j:Nat->Bool)(n:Nat):List Nat:=(List.range n).filter fun k=>!j k
theorem gR(j:Nat->Bool)(k:Nat):aS j (k+1)=aS j k++(if j k=true then [] else [k]):=by
 unfold aS;rw [List.range_succ,List.filter_append]
 congr 1
 cases h:j k <;> simp [h]
theorem lz(j:Nat->Bool)(n:Nat):(aS j n).length<=n:=by
 have:=List.length_filter_le (fun k=>!j k) (List.range n)
 simpa [aS] using this
end Go.Proofs.YtoeggiplcaegoaaGreatDoor
namespace Go.Proofs.YtoeggiplcaegoaaGreatDoor
open Go.RowKit Go.ChangeShapes Go.WideShapes
def ay(n:Int):Int:=if n<1 then 1 else if 1024<n then 1024 else n
theorem kI(n:Int):(n<1/\ay n=1)\/(1<=n/\n<=1024/\ay n=n)\/(1024<n/\ay n=1024):=by unfold ay;omega
theorem bH(n:Int):1<=ay n/\ay n<=1024:=by unfold ay;omega
theorem bE(n:Int)(w:World):Calls Tryz.prog 163 #[.int .i64 n] w fun e w'=>e=.returned (.int .i64 (ay n))/\w=w':=by
 rcases kI n with ⟨h2,hs⟩ | ⟨h2,h3,hs⟩ | ⟨h2,hs⟩
 all_goals
  rw [hs];clear hs
  go_enter Tryz.func163,Tryz.ntmps163
  go_wp2;go_ret;exact ⟨af,rfl⟩
theorem tS{k:IntKind}{w:World}{v:Value}{xs:List Int}(h:Held k w v xs)(o:Obj):Held k (w.alloc o) v xs:=h.below (AU _ _)
theorem wN(w:World)(t:TypeId)(k:IntKind)(B:Nat)(hB:B<=w.heap.size):(w.alloc (.cells #[] t)).ownsRow B t 1 (.slice (some ⟨w.heap.size,0,none⟩) 0 0) 0 (([]:List Int).map (Value.int k)) :=
 ⟨rfl,.inr ⟨w.heap.size,0,#[],rfl,hB,heap_alloc_new w _,Nat.le_refl _,by unfold maxLen;omega,rfl,rfl⟩⟩
theorem Tryz.info_r:(Tryz.prog.info? 21).map (fun i=>(i.zero,i.size,i.bytes))=some (some (.int .i32 0),1,4):=by kernel_rfl
def j6(t:TypeId)(k:IntKind)(w:World)(xs:List Int)(e:Ending)(w':World):Prop:=∃ v',e=.returned v'/\w'.ownsRow w.heap.size t 1 v' xs.length (xs.map (Value.int k))/\Below w.heap.size w w'
theorem lI(v:Value)(xs:List Int)(w:World)(hv:Held .i32 w v xs)(hl:xs.length<=1000000000):Calls Tryz.prog 138 #[v] w (j6 21 .i32 w xs):=by
 obtain ⟨ao,cap,rfl,hn,_⟩:=id hv
 cases ao with
 |none =>
  obtain ⟨rfl,rfl⟩:=hn rfl;clear hv hn;have q:=fun w=>run_eql_slice_nil (P:=Tryz.prog) w 27 21 none 0 0 Tryz.underlying27
  go_enter Tryz.func138,Tryz.ntmps138
  go_wp2;go_ret;exact ⟨_,rfl,World.ownsRow_nil _ _ _ _,Below.refl _ _⟩
 |some a =>
  have hv':=tS hv (.cells #[] 21);clear hv hn;have q:=fun w=>run_eql_slice_nil (P:=Tryz.prog) w 27 21 (some a) xs.length cap Tryz.underlying27
  go_enter Tryz.func138,Tryz.ntmps138
  go_wp2_with (at_builtin;refine cW (w.alloc (.cells #[] 21)) rfl (.tmp 5) (.tmp 6) 27 rfl w.heap.size 21 (.int .i32 0) 4 Tryz.underlying27 Tryz.info_r rfl .i32 _ 0 [] rfl (wN w 21 .i32 _ (Nat.le_refl _)) _ xs rfl hv' (by omega) (by omega) (by simp) ?_)
  intro v5 w5 Dd CY;have GD:w5.ownsRow w.heap.size 21 1 v5 xs.length (xs.map (Value.int .i32)):=by simpa using Dd
  clear Dd;go_wp2;go_ret;exact ⟨_,rfl,GD,(AU _ _).trans CY⟩
section
open Go.ChangeShapes Go.WideShapes Go.ChangeAt Go.RowKit
def Yes(w:World)(e:Ending)(w':World):Prop:=e=.returned (.bool true)/\Below w.heap.size w w'
section
variable {H : Type} {enc : TypeId × Value → H} {P : Program}
theorem my{W W':World}(hl:laidOutB P=true)(hb:Below W.heap.size W W'):∀ (ts:List TypeId) (vs:List Value) (ds:List (DataW H)) (ps:List MemPlace),
  (∀ t ∈ ts,P.readableRec t=true/\t<P.types.size)->(∀ x ∈ ps,x.block<W.heap.size)->DataW.TrodAll enc P W 0 (fun _=>true) true ts vs ds ps->DataW.TrodAll enc P W' 0 (fun b=>decide (b<W.heap.size)) true ts vs ds ps:=by
 intro ts
 induction ts with
 |nil =>
  intro vs ds ps _ _ h;obtain ⟨rfl,rfl,rfl⟩:=trodAll_nil h;exact trodAll_mk0
 |cons t ts ih =>
  intro vs ds ps hr hlt h;obtain ⟨v,vs',d,ds',p,q,rfl,rfl,rfl,h0,h1⟩:=trodAll_cons h;exact trodAll_cons_mk (Below.trod hl (hr t (by simp)).1 (hr t (by simp)).2 h0 hb (fun x hx=>hlt x (by simp [hx])))
   (ih vs' ds' q (fun u hu=>hr u (by simp [hu])) (fun x hx=>hlt x (by simp [hx])) h1)
theorem lL{w:World}{b:Nat}{sp:Nat->Bool}{hd:Bool}:∀ (ts:List TypeId) (vs:List Value) (ds:List (DataW H)) (ps:List MemPlace),DataW.TrodAll enc P w b sp hd ts vs ds ps->ds.length=ts.length:=by
 intro ts
 induction ts with
 |nil =>
  intro vs ds ps h;obtain ⟨rfl,rfl,rfl⟩:=trodAll_nil h
  rfl
 |cons t ts ih =>
  intro vs ds ps h;obtain ⟨v,vs',d,ds',p,q,rfl,rfl,rfl,_,h1⟩:=trodAll_cons h
  simp [ih vs' ds' q h1]
end
theorem uf{H:Type}{enc:TypeId × Value->H}{C:Checked}{os:Os}{f:FuncId}{fn:Func}{s:ChangeSpec}{laid:List (String × DataW Unit)}{tb:TypeId}
  (own:ownKnob C.prog.godebug=none) (started:os.Started) (noInit:C.prog.inits.idxOf? f=none) (hfn:C.prog.funcs[f]? = some fn)
  (hl:laidOutB C.prog=true) (hres:fn.resultTypes=#[tb]) (hbool:C.prog.underlying tb=some .bool) (hvars:s.vars=[])
  (hread:∀ t ∈ fn.params.toList,C.prog.readableRec t=true/\t<C.prog.types.size)
  (hspec:∀ ds:List (DataW H),ds.length=fn.params.size->s.fn H ds={ results:=[.lit (.bool true)],args:=ds })
  (witness:∃ (w:World) (tape:Tape) (i:Input),w.os=os/\(w.forCall tape i).Shaped C.prog/\i.vars=[]/\Input.okWide C.prog (w.forCall tape i) .any w.heap.size f i /\
   ((s.pre enc C.prog fn [] false (w.forCall tape i).memory i.args/\laidMetH C.prog laid (w.forCall tape i).memory)/\sizedMet enc C.prog fn (OpenSpec.ofChange s) false (w.forCall tape i).memory i.args)/\({}:Assume).holds C.prog (lone (Frame.enter C.prog f i.args .normal) [] (w.forCall tape i)))
  (walk:∀ (W:World) (base:Nat) (args:Array Value) (ds:List (DataW H)) (before:List MemPlace),
   (∀ (j:Nat) t v,fn.params[j]? = some t->args[j]? = some v->Value.okWide C.prog W .any base t v) ->
   DataW.TrodAll enc C.prog W 0 (fun _=>true) true fn.params.toList args.toList ds before ->
   (DataW.weightsEach C.prog (fn.params.toList++s.plain.varTypes C.prog) (ds++[])).all (· <= reachBytes)=true->laidMetH C.prog laid W->Calls C.prog f args W (Yes W)) :
  ReturnsInHanded {} C os f .any (fun w args=>(s.pre enc C.prog fn [] false w args/\laidMetH C.prog laid w)/\sizedMet enc C.prog fn (OpenSpec.ofChange s) false w args) (s.post enc C.prog fn false true false false):=by
 refine returnsInHanded_of_change_and (C:=C) (X:=fun w _=>laidMetH C.prog laid w) (fun _ _ _ hh h=>h.of_heap hh) own started noInit hfn witness ?_;intro W base args ds gs before hval hW _ hsz hL _;have Kd:=hW;obtain ⟨p,q,hA,hV,rfl,hfz,hnd⟩:=hW;rw [hvars] at hV;obtain ⟨rfl,rfl⟩:=trodVars_none hV;refine (walk W base args ds p hval hA hsz hL).mono fun e W' he=>?_
 obtain ⟨rfl,hb⟩:=he;have hlt:∀ x ∈ p,x.block<W.heap.size:=fun x hx=>Kd.lt x (by simpa using hx)
 have e1:s.fn H (ds++[])={ results:=[.lit (.bool true)],args:=ds }:=by
  rw [List.append_nil];exact hspec ds (by simpa using lL _ _ _ _ hA)
 refine ⟨_,rfl,ds,[],p++[],[],p,[],Kd,?_,?_,?_,hb.frame _,fun h=>by cases h⟩
 ·rw [e1,hres];exact trodAll_mk1 (shut_bool hbool true)
 ·rw [e1];exact my hl hb _ _ _ _ hread hlt hA
 ·rw [e1,hvars]
  rfl
end
def eM(j:Nat->Bool):Nat->Nat
 | 0=>0
 | k+1=>if j k=true\/k=0 then eM j k else k
def eh(j:Nat->Bool):Nat->List (Nat × Nat)
 | 0=>[]
 | k+1=>if j k=true\/k=0 then eh j k else eh j k++[(eM j k,k)]
def fe(j:Nat->Bool)(n:Nat):List (Nat × Nat):=if n=0 then [] else eh j n++[(eM j n,n)]
theorem ep(j:Nat->Bool)(k:Nat):eM j (k+1)=if j k=true\/k=0 then eM j k else k:=rfl
theorem eq(j:Nat->Bool)(k:Nat):eh j (k+1)=if j k=true\/k=0 then eh j k else eh j k++[(eM j k,k)]:=rfl
theorem jg(j:Nat->Bool):∀ k,0<k->eM j k<k
 |0,h=>absurd h (Nat.lt_irrefl _)
 |k+1,_=>by
  rw [ep]
  split
  ·rcases Nat.eq_zero_or_pos k with e | e
   ·subst e;exact Nat.zero_lt_one
   ·have:=jg j k e;omega
  ·omega
theorem ph(j:Nat->Bool)(k:Nat):eM j k<=k:=by
 rcases Nat.eq_zero_or_pos k with e | e
 ·subst e;exact Nat.le_refl _
 ·exact Nat.le_of_lt (jg j k e)
theorem eQ(j:Nat->Bool)(h0:j 0=false):∀ k,0<k->(eh j k).map Prod.fst++[eM j k]=aS j k/\(eh j k).map Prod.snd=(aS j k).tail
 |0,h=>absurd h (Nat.lt_irrefl _)
 |1,_=>by
  have e:aS j 1=[0]:=by rw [gR,h0];rfl
  rw [e];exact ⟨by simp [eh,eM],by simp [eh]⟩
 |k+2,_=>by
  obtain ⟨h1,h2⟩:=eQ j h0 (k+1) (Nat.succ_pos _);rw [gR j (k+1)];rw [ep,eq]
  cases hj:j (k+1) with
  |true =>
   rw [if_pos (.inl rfl),if_pos (.inl rfl),if_pos rfl,List.append_nil];exact ⟨h1,h2⟩
  |false =>
   rw [if_neg (by simp),if_neg (by simp),if_neg (by decide)];refine ⟨by rw [List.map_append,List.map_cons,List.map_nil,h1],?_⟩;rw [List.map_append,h2,List.map_cons,List.map_nil];have hne:aS j (k+1)≠[]:=by rw [<-h1];simp
   cases hs:aS j (k+1) with
   | nil=>exact absurd hs hne
   | cons a l=>rfl
theorem ly(j:Nat->Bool)(h0:j 0=false)(n:Nat):(fe j n).map Prod.fst=aS j n:=by
 unfold fe
 by_cases h:n=0
 ·subst h;rw [if_pos rfl];rfl
 ·rw [if_neg h,List.map_append];exact (eQ j h0 n (Nat.pos_of_ne_zero h)).1
theorem rf(j:Nat->Bool)(h0:j 0=false)(n:Nat)(h:0<n):(fe j n).map Prod.snd=(aS j n++[n]).tail:=by
 unfold fe;rw [if_neg (by omega),List.map_append,(eQ j h0 n h).2];have hne:aS j n≠[]:=by rw [<-(eQ j h0 n h).1];simp
 cases hs:aS j n with
 | nil=>exact absurd hs hne
 | cons a l=>rfl
theorem iN(j:Nat->Bool)(h0:j 0=false)(n:Nat):(fe j n).length=(aS j n).length:=by rw [<-ly j h0 n,List.length_map]
theorem tH(j:Nat->Bool)(h0:j 0=false)(n i:Nat)(hi:i<(aS j n).length):(fe j n).getD i (0,0)=((aS j n++[n]).getD i 0,(aS j n++[n]).getD (i+1) 0):=by
 have hn:0<n:=by
  rcases Nat.eq_zero_or_pos n with e | e
  ·subst e;simp [aS] at hi
  ·exact e
 have hl:=iN j h0 n;have e1:=congrArg (fun l:List Nat=>l.getD i 0) (ly j h0 n);have e2:=congrArg (fun l:List Nat=>l.getD i 0) (rf j h0 n hn);have hs:i<(fe j n).length:=by omega
 have e3:(aS j n++[n]).tail.getD i 0=(aS j n++[n]).getD (i+1) 0:=by
  cases aS j n with
  | nil=>rfl
  | cons a l=>rfl
 have e4:(aS j n++[n]).getD i 0=(aS j n).getD i 0:=by simp [List.getD,List.getElem?_append_left hi]
 rw [e4];simp only [e3] at e2
 simp [List.getD,List.getElem?_eq_getElem hs] at e1 e2 ⊢
 exact Prod.ext (by simpa [List.getD] using e1) (by simpa [List.getD] using e2)
theorem jh(j:Nat->Bool):∀ k p,p ∈ eh j k->p.1<p.2/\p.2<k
 |0,p,h=>by simp [eh] at h
 |k+1,p,h=>by
  rw [eq] at h
  split at h
  ·have:=jh j k p h;omega
  ·rename_i hk
   rcases List.mem_append.1 h with h | h
   ·have:=jh j k p h;omega
   ·simp at h
    subst h;have:k≠0:=fun e=>hk (.inr e)
    have:=jg j k (by omega);exact ⟨this,by simp⟩
theorem jX(j:Nat->Bool)(n:Nat)(p:Nat × Nat)(h:p ∈ fe j n):p.1<p.2/\p.2<=n:=by
 unfold fe at h
 split at h
 ·simp at h
 ·rcases List.mem_append.1 h with h | h
  ·have:=jh j n p h;omega
  ·simp at h
   subst h;exact ⟨jg j n (by omega),Nat.le_refl _⟩
def bw{α:Type}(T:List α)(p:Nat × Nat):List α:=(T.drop p.1).take (p.2 - p.1)
theorem ff{α:Type}(T:List α)(p:Nat × Nat)(h1:p.1<=p.2)(h2:p.2<=T.length):(bw T p).length=p.2 - p.1:=by unfold bw;rw [List.length_take,List.length_drop];omega
theorem kq(j j':Nat->Bool):∀ k,(∀ i,i<k->j i=j' i)->eh j k=eh j' k/\eM j k=eM j' k
 |0,_=>⟨rfl,rfl⟩
 |k+1,h=>by
  obtain ⟨h1,h2⟩:=kq j j' k fun i hi=>h i (by omega)
  rw [ep,eq,ep,eq,h1,h2,h k (by omega)];exact ⟨rfl,rfl⟩
section
open Go Go.RowKit
def fT(l:List Oper)(n:Nat):Bool :=
 (List.range n).all fun i=>match l[i]? with
  |some o=>(o.after.all fun e=>!Region.binds .any e || decide (e.on<i)) && (match o.guard with
   | none=>true
   | some (j,_)=>decide (j<n))
  |none=>false
theorem lF{l:List Oper}{n i:Nat}{o:Oper}(h:fT l n=true)(hi:i<n)(ho:l[i]? = some o) :
  (∀ e ∈ o.after,Region.binds .any e=true->e.on<i)/\∀ j b,o.guard=some (j,b)->j<n:=by
 have h1:=List.all_eq_true.1 h i (List.mem_range.2 hi);rw [ho] at h1;simp only [Bool.and_eq_true] at h1;refine ⟨fun e he hb=>?_,fun j b hg=>?_⟩
 ·have:=Array.all_eq_true'.1 h1.1 e he
  simpa [hb] using this
 ·have:=h1.2;rw [hg] at this
  simpa using this
theorem oA{l:List Oper}{n i:Nat}(hi:i<n):(l.take n)[i]? = l[i]?:=by
 rw [List.getElem?_take,if_pos hi]
theorem pw{l:List Oper}{n i:Nat}{o:Oper}(h:fT l n=true)(hi:i<n)(ho:l[i]? = some o)(tmps:Array Value) :
  Region.wanted o (yielded (l.take n).toArray tmps)=Region.wanted o (yielded l.toArray tmps):=by
 unfold Region.wanted
 cases hg:o.guard with
 |none=>rfl
 |some jb =>
  obtain ⟨j,b⟩:=jb;have hj:=(lF h hi ho).2 j b hg;have e:yielded (l.take n).toArray tmps j=yielded l.toArray tmps j:=by
   unfold yielded;simp only [List.getElem?_toArray];rw [oA hj]
  simp only [e]
def de(n:Nat)(listed:Array Bool):Nat:=((List.range n).filter fun i=>!listed.getD i true).length
theorem es{n:Nat}{listed:Array Bool}(h:de n listed=0):∀ i,i<n->listed.getD i true=true:=by
 intro i hi
 cases hl:listed.getD i true with
 |true=>rfl
 |false =>
  have:i ∈ (List.range n).filter fun i=>!listed.getD i true:=List.mem_filter.2 ⟨List.mem_range.2 hi,by simp [hl]⟩
  rw [List.length_eq_zero_iff.1 h] at this
  cases this
theorem oB{n:Nat}{listed:Array Bool}(h:0<de n listed):∃ i,i<n/\listed.getD i true=false/\∀ j,j<i->listed.getD j true=true:=by
 obtain ⟨i,hi⟩:=List.exists_mem_of_length_pos h;obtain ⟨h1,h2⟩:=List.mem_filter.1 hi;have h3:i<n/\listed.getD i true=false:=⟨List.mem_range.1 h1,by simpa using h2⟩;clear hi h1 h2 h
 induction i using Nat.strongRecOn with
 |_ i ih =>
  by_cases hex:∃ j,j<i/\listed.getD j true=false
  ·obtain ⟨j,hj,hf⟩:=hex;exact ih j hj ⟨by omega,hf⟩
  ·refine ⟨i,h3.1,h3.2,fun j hj=>?_⟩
   cases hl:listed.getD j true with
   | true=>rfl
   | false=>exact absurd ⟨j,hj,hl⟩ hex
theorem gL{α:Type}(p q:α->Bool)(x:α):∀ (l:List α),l.Nodup->x ∈ l->p x=true->q x=false->(∀ y,y≠x->q y=p y)->(l.filter q).length+1=(l.filter p).length
 |[],_,hx,_,_,_=>by cases hx
 |y :: l,hnd,hx,hp,hq,hs=>by
  obtain ⟨hy,hnd'⟩:=List.nodup_cons.1 hnd
  by_cases he:y=x
  ·subst he;have:l.filter q=l.filter p:=List.filter_congr fun z hz=>hs z (fun e=>hy (e ▸ hz))
   rw [List.filter_cons_of_neg (by simp [hq]),List.filter_cons_of_pos hp,this]
   simp
  ·have hx':x ∈ l:=by
    rcases List.mem_cons.1 hx with h | h
    ·exact absurd h.symm he
    ·exact h
   have:=gL p q x l hnd' hx' hp hq hs;rw [List.filter_cons,List.filter_cons,hs y he]
   split
   ·rw [List.length_cons,List.length_cons];omega
   ·exact this
theorem eR{n i:Nat}{listed:Array Bool}(hsz:listed.size=n)(hi:i<n)(hu:listed.getD i true=false):de n (listed.setIfInBounds i true)+1=de n listed:=by
 unfold de;refine gL _ _ i _ List.nodup_range (List.mem_range.2 hi) (by simp [hu]) ?_ ?_
 ·have:(listed.setIfInBounds i true).getD i true=true:=by
   rw [Array.getD_eq_getD_getElem?,Array.getElem?_setIfInBounds_self_of_lt (by omega)]
   rfl
  rw [this];rfl
 ·intro y hy;rw [getD_set_ne true (by omega)]
theorem ez{listed:Array Bool}{i:Nat}(h:i<listed.size):listed.getD i false=listed.getD i true:=by
 rw [Array.getD_eq_getD_getElem?,Array.getD_eq_getD_getElem?,Array.getElem?_eq_getElem h]
 rfl
section
variable {P : Program} {l : List Oper} {n : Nat} {C : World → Prop}
theorem rj(BB:fT l n=true){listed₀ listed:Array Bool}(CV:∀ i,i<n->listed.getD i true=listed₀.getD i true)(hs0:listed₀.size=n)(hs:listed.size=l.length)(hn:n<l.length){i:Nat}(hi:i<n)
  (hr:i ∈ Region.ready .any l.toArray listed):i ∈ Region.ready .any (l.take n).toArray listed₀:=by
 obtain ⟨h1,o,ho,hall⟩:=mem_ready.1 hr;have C3:l[i]? = some o:=by simpa using ho
 refine mem_ready.2 ⟨(CV i hi).symm.trans h1,o,by simpa [oA hi] using C3,fun e he hb=>?_⟩;have hlt:=(lF BB hi C3).1 e he hb;have h2:=hall e he hb;have h3:=CV e.on (by omega);rw [ez (by omega)] at h2 ⊢;rw [<-h3];exact h2
theorem rk(BB:fT l n=true){listed:Array Bool}(hs:listed.size=l.length)(hn:n<l.length){i:Nat}(hi:i<n)(hu:listed.getD i true=false)(hb:∀ j,j<i->listed.getD j true=true) :
  i ∈ Region.ready .any l.toArray listed:=by
 have hl:l[i]? = some l[i]:=List.getElem?_eq_getElem (by omega);refine mem_ready.2 ⟨hu,l[i],by simp,fun e he Ja=>?_⟩;have hlt:=(lF BB hi hl).1 e he Ja;have:=hb e.on hlt;rw [Array.getD_eq_getD_getElem?,Array.getElem?_eq_getElem (by omega)] at this ⊢;exact this
theorem wB(BB:fT l n=true){i:Nat}(hi:i<n){K:Act->Prop}{a:Act}(h:qOp P (l.take n).toArray C i K a):qOp P l.toArray C i K a:=by
 unfold qOp at *;simp only [List.getElem?_toArray] at *;rw [oA hi] at h
 cases ho:l[i]? with
 |none=>rw [ho] at h;exact h
 |some o =>
  rw [ho] at h;simp only at h ⊢;rw [pw BB hi ho] at h;exact h
def aZ(l:List Oper)(n:Nat):Array Bool:=((List.range l.length).map fun i=>decide (i<n)).toArray
theorem px{listed:Array Bool}(hs:listed.size=l.length)(hd:∀ i,i<n->listed.getD i true=true)(inv:HeadInv .any l.toArray n listed):listed=aZ l n:=by
 apply Array.ext
 ·simp [aZ,hs]
 ·intro i h1 h2;have h3:(aZ l n)[i]=decide (i<n):=by simp [aZ]
  rw [h3]
  by_cases hi:i<n
  ·have:=hd i hi;rw [Array.getD_eq_getD_getElem?,Array.getElem?_eq_getElem h1] at this;rw [decide_eq_true hi];exact this
  ·have:=inv.tail i (by omega) (by simp;omega);rw [Array.getD_eq_getD_getElem?,Array.getElem?_eq_getElem h1] at this;rw [decide_eq_false hi];exact this
theorem py{g:Nat}{Q':Exit->Act->World->Prop}{T:Act->Prop}(hn:n<l.length)(BB:fT l n=true)(hs:Region.sinkB .any l.toArray n=true)(hc:Region.chainB .any l.toArray n=true)
  (hT:∀ a w,C w->T a->wpAny P .any l.toArray Q' g (aZ l n) a w) :
  ∀ (f:Nat) (listed₀ listed:Array Bool) (a:Act) (w:World),C w->HeadInv .any l.toArray n listed->listed₀.size=n->(∀ i,i<n->listed.getD i true=listed₀.getD i true)->de n listed₀=f ->
   wpAnyQ P .any (l.take n).toArray C T f listed₀ a->wpAny P .any l.toArray Q' (f+g) listed a w:=by
 intro f
 induction f with
 |zero =>
  intro listed₀ listed a w hw inv hs0 CV hu h;have hsz:listed.size=l.length:=by simpa using inv.size
  rw [Nat.zero_add,px hsz (fun i hi=>(CV i hi).trans (es hu i hi)) inv];exact hT a w hw h.2
 |succ f ih =>
  intro listed₀ listed a w hw inv hs0 CV hu h;have hsz:listed.size=l.length:=by simpa using inv.size
  obtain ⟨m,hm,hmu,hmb⟩:=oB (n:=n) (listed:=listed₀) (by omega);have hmr:=rk BB hsz hn hm ((CV m hm).trans hmu) (fun j hj=>(CV j (by omega)).trans (hmb j hj));rw [show f+1+g=(f+g)+1 by omega];refine ⟨(fun h0=>by rw [h0] at hmr;cases hmr),fun i hi=>?_⟩;have Ce:i<n:=by
   rcases Nat.lt_or_ge i n with h' | h'
   ·exact h'
   ·exact absurd hi (tail_waits hs hc (by simpa using hn) inv _ m rfl hm ((CV m hm).trans hmu) i h')
  have Ll:=rj BB CV hs0 hsz hn Ce hi;have hq:=wB BB Ce (h.2 i Ll);refine wpOp_of_qOp hw (fun a' w' hw' hK=>ih _ _ a' w' hw' (inv.set hi Ce) (by simpa using hs0) (fun j hj=>?_) ?_ hK) hq
  ·by_cases E8:i=j
   ·subst E8;rw [Array.getD_eq_getD_getElem?,Array.getD_eq_getD_getElem?,Array.getElem?_setIfInBounds_self_of_lt (by omega),Array.getElem?_setIfInBounds_self_of_lt (by omega)]
   ·rw [getD_set_ne true E8,getD_set_ne true E8];exact CV j hj
  ·have:=eR hs0 Ce ((CV i Ce).symm.trans (mem_ready.1 hi).1);omega
theorem lG{id:Nat}{Q:Exit->Act->World->Prop}{a:Act}{w:World}(n:Nat)(hm:P.follows .mixedOrders=true)(hn:n<l.length)(hB:Region.lexB .any (l.take n).toArray=true)(BB:fT l n=true)
  (hs:Region.sinkB .any l.toArray n=true) (hc:Region.chainB .any l.toArray n=true) (hseq:Region.seqB .any l.toArray (l.length - n) n (aZ l n)=true) (hC:C { w with drawn:=w.drawn+1 })
  (h:wpQuiet P (l.take n).toArray C (fun a'=>∀ w',C w'->wpList P l.toArray Q (l.drop n) a' w') (l.take n) a):(Code.region id l.toArray true).wp P Q a w:=by
 simp only [Region.lexB,Bool.and_eq_true] at hB;have E7:(l.take n).length=n:=by simp;omega
 have Nm:(l.drop n).length=l.length - n:=by simp
 have H:=wpAnyQ_lex (C:=C) (md:=.any) hB.1 (l.take n) 0 (Array.replicate (l.take n).toArray.size false) a (by simp) (by simpa using hB.2) h;have inv0:HeadInv .any l.toArray n (Array.replicate l.toArray.size false) :=
  ⟨by simp,fun j oj _ hl=>(by rw [getD_replicate_false] at hl;cases hl),fun t _ ht=>getD_in (by simpa using ht) (getD_replicate_false _ _)⟩
 refine wp_region_any hm ?_;have:=py (C:=C) (Q':=Q) (g:=l.length - n) hn BB hs hc (fun a' w' hw' hT=>by
  have:=wpAny_of_seq (md:=.any) (Q':=Q) (l.drop n) n (aZ l n) a' w' (fun j=>by simp [List.getElem?_drop]) (by rw [Nm];exact hseq) (hT w' hw')
  rwa [Nm] at this) (l.take n).length (Array.replicate (l.take n).toArray.size false) (Array.replicate l.toArray.size false) a _ hC inv0 (by simp;omega) (fun i hi=>by
   rw [getD_in (by simpa using (by omega:i<l.length)) (getD_replicate_false _ _),getD_in (by simp;omega) (getD_replicate_false _ _)]) (by
   unfold de;rw [List.filter_eq_self.2 (fun i hi=>by
    have:=List.mem_range.1 hi;rw [getD_in (by simp;omega) (getD_replicate_false _ _)];rfl),List.length_range]
   omega) H
 rw [E7,show n+(l.length - n)=l.toArray.size by simp;omega] at this;exact this
end
structure Growth (w:World) where
 tz9:World
 ok:Below w.heap.size w tz9
instance (w:World):Nonempty (Growth w):=⟨⟨w,Below.refl _ _⟩⟩
def ext(w:World)(u:Growth w):World:=u.tz9
theorem aj{w:World}{a:Addr}{v:Value}(h:w.cell? a=some v)(u:Growth w):(ext w u).cell? a=some v :=
 (u.ok.cell (World.block_lt_of_cell? w a h)).trans h
theorem aD{w:World}{a:Addr}{b:Bool}(hl:a.block<w.heap.size)(h:w.frozen? a=b)(u:Growth w):(ext w u).frozen? a=b :=
 (u.ok.frozen (p:=a) hl).trans h
theorem ei{P:Program}{f:FuncId}{args:Array Value}{w:World}{u:Growth w}{v:Value}
  (h:Calls P f args (ext w u) fun e w'=>e=.returned v/\Below (ext w u).heap.size (ext w u) w'):Calls P f args (ext w u) fun e w''=>e=.returned v/\∃ u',w''=ext w u' :=
 h.mono fun _ w' ⟨he,hb⟩=>⟨he,⟨w',u.ok.trans (hb.mono u.ok.size)⟩,rfl⟩
theorem aG{P:Program}{f:FuncId}{args:Array Value}{w:World}{u:Growth w}{v:Value}
  (h:Calls P f args (ext w u) fun e w'=>e=.returned v/\ext w u=w'):Calls P f args (ext w u) fun e w''=>e=.returned v/\∃ u',w''=ext w u' :=
 h.mono fun _ w' ⟨he,hb⟩=>⟨he,u,hb.symm⟩
def zQ(w:World):Growth w:=⟨{ w with drawn:=w.drawn+1 },⟨rfl,rfl,rfl,Nat.le_refl _,fun _ _=>rfl⟩⟩
theorem aJ{P:Program}{id:Nat}{Q:Exit->Act->World->Prop}{a:Act}{w:World}{l:List Oper}(hm:P.follows .mixedOrders=true)(hB:Region.lexB .any l.toArray=true)
  (h:wpQuiet P l.toArray (fun w'=>∃ u,w'=ext w u) (fun a'=>∀ w',(∃ u,w'=ext w u)->Q .normal a' w') l a):(Code.region id l.toArray true).wp P Q a w :=
 wp_region_quiet (C:=fun w'=>∃ u,w'=ext w u) hm hB ⟨zQ w,rfl⟩ (by simpa using h)
theorem aC{P:Program}{id:Nat}{Q:Exit->Act->World->Prop}{a:Act}{w:World}{l:List Oper}(n:Nat)(hm:P.follows .mixedOrders=true)(hn:n<l.length)(hB:Region.lexB .any (l.take n).toArray=true)(BB:fT l n=true)
  (hs:Region.sinkB .any l.toArray n=true) (hc:Region.chainB .any l.toArray n=true) (hseq:Region.seqB .any l.toArray (l.length - n) n (aZ l n)=true)
  (h:wpQuiet P (l.take n).toArray (fun w'=>∃ u,w'=ext w u) (fun a'=>∀ w',(∃ u,w'=ext w u)->wpList P l.toArray Q (l.drop n) a' w') (l.take n) a):(Code.region id l.toArray true).wp P Q a w :=
 lG n hm hn hB BB hs hc hseq ⟨zQ w,rfl⟩ h
theorem aU{w W:World}(h:Below w.heap.size w W)(u:Growth W):Below w.heap.size w (ext W u):=h.trans (u.ok.mono h.size)
end
section
open Go Go.RowKit
def j5(P:Program):List Oper->Act->Option Act
 |[],a=>some a
 |o :: l,a=>match o.guard,o.op with
  |none,.build t parts=>match P.built t (parts.map fun (i,x)=>(i,a.eval x)).toList with
   | some cells=>j5 P l (a.put o.dst (.agg cells))
   | none=>none
  |_,_=>none
section
variable {P : Program} {ops : Array Oper} {Q : Exit → Act → World → Prop} {w : World}
theorem eA:∀ (l rest:List Oper) (a a':Act),j5 P l a=some a'->wpList P ops Q rest a' w->wpList P ops Q (l++rest) a w
 |[],rest,a,a',hb,h=>by
  simp only [j5,Option.some.injEq] at hb;subst hb;exact h
 |o :: l,rest,a,a',hb,h=>by
  unfold j5 at hb
  split at hb
  ·rename_i t parts hg ho
   split at hb
   ·rename_i cells hc
    refine wpList_build hg t parts ho (by rw [hc];rfl) ?_;rw [hc];exact eA l rest _ a' hb h
   ·cases hb
  ·cases hb
theorem am{L:List Oper}{a:Act}(n:Nat)(hb:(j5 P (L.take n) a).isSome=true)(h:wpList P ops Q (L.drop n) ((j5 P (L.take n) a).getD a) w):wpList P ops Q L a w:=by
 obtain ⟨a',ha⟩:=Option.isSome_iff_exists.1 hb;rw [ha] at h;have:=eA (ops:=ops) (Q:=Q) (L.take n) (L.drop n) a a' ha h
 rwa [List.take_append_drop] at this
theorem aQ{o:Oper}{rest:List Oper}{a:Act}(hg:o.guard=none)(t:TypeId)(ho:o.op=.alloc t)(z:Value)(n:Nat)(hi:(P.info? t).map (fun i=>(i.zero,i.size))=some (some z,n))
  (h:wpList P ops Q rest (a.put o.dst (.pointer (some ⟨w.heap.size,0,none⟩))) (w.alloc (.cells z.cells t))):wpList P ops Q (o :: rest) a w:=by
 refine wpList_plain hg fun K hK=>?_
 have hz:=(zero_of_info (P:=P) hi).1 w;unfold Oper.wp execOp;simp only [ho,Instr.alloc,newVar,newRow,newObj,Sem.run_bind,hz,Result.andThen_ok];exact hK _ _ h
def Program.builtSlice(P:Program)(t:TypeId)(len:Nat)(parts:List (Nat × Value)):Option (TypeId × Array Value) :=
 match P.underlying t with
 |some (.slice elem)=>match (P.info? elem).map (fun i=>(i.zero,i.size)) with
  | some (some z,size)=>if len * size=0\/len * size > 2 ^ 24 then none else (Instr.fill (fun i=>some (i * size,size)) ((Array.range (len * size)).map (z.cells[· % z.cells.size]!)) parts).map fun c=>(elem,c)
  | _=>none
 |_=>none
theorem aK{o:Oper}{rest:List Oper}{a:Act}(hg:o.guard=none)(t:TypeId)(len:Nat)(parts:Array (Nat × Operand))(ho:o.op=.buildSlice t len parts)(e:TypeId)(cells:Array Value)
  (hb:Program.builtSlice P t len (parts.map fun (i,x)=>(i,a.eval x)).toList=some (e,cells))
  (h:wpList P ops Q rest (a.put o.dst (.slice (some ⟨w.heap.size,0,none⟩) len len)) (w.alloc (.cells cells e))):wpList P ops Q (o :: rest) a w:=by
 refine wpList_plain hg fun K hK=>?_
 unfold Program.builtSlice at hb
 split at hb
 ·rename_i elem hu
  split at hb
  ·rename_i z size hi
   obtain ⟨hz,hs⟩:=zero_of_info (P:=P) hi
   split at hb
   ·cases hb
   ·rename_i hc
    simp only [Option.map_eq_some_iff,Prod.mk.injEq] at hb;obtain ⟨c,hf,rfl,rfl⟩:=hb;have h1:¬ len * size=0:=fun e=>hc (.inl e)
    have h2:¬ len * size > 2 ^ 24:=fun e=>hc (.inr e)
    have hsz:∀ w,(sizeOf elem).run P w=.ok size w:=fun w=>by
     cases hq:P.info? elem with
     | none=>simp [hq] at hs
     | some i=>simp [hq] at hs;simp [sizeOf,typeInfo,hq,hs]
    unfold Oper.wp execOp;simp only [ho,Instr.buildSlice,Sem.run_bind,run_underlying hu,hsz,Result.andThen_ok,if_neg h1,if_neg h2,hz,Sem.run_pure];rw [show (Array.map (fun x=>(x.fst,a.eval x.snd)) parts).toList=(parts.map fun (i,x)=>(i,a.eval x)).toList from rfl,hf];simp only [newRow,newObj,Sem.run_bind,Result.andThen_ok,Sem.run_pure];exact hK _ _ h
  ·cases hb
 ·cases hb
end
end
section
namespace Mix
def upon(P:Program)(C:World->Prop)(v:Value):Result Next->Prop
 | .ok (.value u) w'=>C w'/\u=v
 | .ok .skip w'=>C w'/\v=undef
 | .ok (.enter f args) w'=>Calls P f args w' (fun e w''=>e=.returned v/\C w'')
 | _=>False
section
variable (P : Program) (ops : Array Oper) (CL : Array Bool → World → Prop)
def Gives(i:Nat)(o:Oper)(v:Value)(a:Act):Prop :=
 (Region.wanted o (yielded ops a.tmps)=true/\∀ L w,L.size=ops.size->i ∈ Region.ready .any ops L->CL L w->upon P (CL (L.setIfInBounds i true)) v ((execOp a.eval o).run P w)) \/
 (Region.wanted o (yielded ops a.tmps)=false/\v=undef/\∀ L w,L.size=ops.size->i ∈ Region.ready .any ops L->CL L w->CL (L.setIfInBounds i true) w)
def At(i:Nat)(K:Act->Prop)(a:Act):Prop:=∃ o v,ops[i]? = some o/\Gives P ops CL i o v a/\K (a.put o.dst v)
def Any(Q:Act->Prop):Nat->Array Bool->Act->Prop
 | 0,L,a=>Region.ready .any ops L=[]/\Q a
 | f+1,L,a=>(Region.ready .any ops L=[]->Q a)/\∀ i ∈ Region.ready .any ops L,At P ops CL i (Any Q f (L.setIfInBounds i true)) a
def Aa(Q:Act->Prop):List Oper->Nat->Act->Prop
 | [],_,a=>Q a
 | o :: rest,k,a=>∃ v,Gives P ops CL k o v a/\Aa Q rest (k+1) (a.put o.dst v)
end
section
variable {P : Program} {ops : Array Oper} {CL : Array Bool → World → Prop}
theorem At.mono{i:Nat}{K K':Act->Prop}{a:Act}(h:∀ a,K a->K' a)(hh:At P ops CL i K a):At P ops CL i K' a:=by
 obtain ⟨o,v,ho,hy,hk⟩:=hh;exact ⟨o,v,ho,hy,h _ hk⟩
theorem Gives.same{i:Nat}{o:Oper}{v:Value}{a a':Act}(h:Gives P ops CL i o v a)(he:execOp a'.eval o=execOp a.eval o)(hw:Region.wanted o (yielded ops a'.tmps)=Region.wanted o (yielded ops a.tmps)):Gives P ops CL i o v a':=by
 unfold Gives at *;rw [he,hw];exact h
theorem wpOp_of{i:Nat}{L:Array Bool}{a:Act}{w:World}{K:Act->Prop}{K':Act->World->Prop}{Q':Exit->Act->World->Prop}(hL:L.size=ops.size)(hr:i ∈ Region.ready .any ops L)(hC:CL L w)
  (h:∀ a w',CL (L.setIfInBounds i true) w'->K a->K' a w') (hh:At P ops CL i K a):wpOp P ops Q' i K' a w:=by
 obtain ⟨o,v,ho,hy,hk⟩:=hh;unfold wpOp;simp only [ho]
 rcases hy with ⟨hw,hv⟩ | ⟨hw,rfl,hv⟩
 ·rw [if_pos hw];refine .inl ?_;have h3:=hv L w hL hr hC;unfold Oper.wp;generalize (execOp a.eval o).run P w=r at *
  cases r with
  |halt x w'=>exact h3.elim
  |ok n w' =>
   cases n <;> simp only [upon] at h3 <;> simp only [Oper.upon]
   case value u =>
    obtain ⟨h4,rfl⟩:=h3;exact h _ _ h4 hk
   case skip =>
    obtain ⟨h4,rfl⟩:=h3;exact h _ _ h4 hk
   case enter f args =>
    exact h3.mono fun e w'' ⟨he,hw''⟩=>by subst he;exact h _ _ hw'' hk
 ·rw [if_neg (by rw [hw];exact Bool.false_ne_true)];exact h _ _ (hv L w hL hr hC) hk
theorem tU{Q:Act->Prop}{Q':Exit->Act->World->Prop}(hQ:∀ L a w,L.size=ops.size->Region.ready .any ops L=[]->CL L w->Q a->Q' .normal a w) :
  ∀ (f:Nat) (L:Array Bool) (a:Act) (w:World),L.size=ops.size->CL L w->Any P ops CL Q f L a->wpAny P .any ops Q' f L a w:=by
 intro f
 induction f with
 |zero=>exact fun L a w hs hC h=>⟨h.1,hQ L a w hs h.1 hC h.2⟩
 |succ f ih =>
  exact fun L a w hs hC h=>⟨fun h0=>hQ L a w hs h0 hC (h.1 h0),fun i hi=>wpOp_of hs hi hC (fun a' w' Kw hK=>ih _ a' w' (by simpa using hs) Kw hK) (h.2 i hi)⟩
theorem At.swap{i j:Nat}{oi oj:Oper}{v:Value}{K:Act->Prop}{a:Act}(hj:ops[j]? = some oj)(hap:oi.apart ops oj=true)(MR:∀ cs b,oi.op≠.select cs b)(hsj:∀ cs b,oj.op≠.select cs b)
  (hy:Gives P ops CL i oi v a) (h:At P ops CL j K (a.put oi.dst v)):At P ops CL j (fun a'=>Gives P ops CL i oi v a'/\K (a'.put oi.dst v)) a:=by
 obtain ⟨p1,p2,p3⟩:=Oper.apart_spec hap;obtain ⟨o,u,ho,hg,hk⟩:=h;obtain rfl:o=oj:=Option.some.inj (ho.symm.trans hj);refine ⟨o,u,ho,hg.same (execOp_put o hsj a oi.dst v p1).symm (wanted_put o a oi.dst v p1).symm,?_,?_⟩
 ·exact hy.same (execOp_put oi MR a o.dst u p3) (wanted_put oi a o.dst u p3)
 ·rw [<-Act.put_comm a v u p2];exact hk
theorem Any.first{Q:Act->Prop}{i:Nat}{oi:Oper}{v:Value}(hi:ops[i]? = some oi)(hsel:∀ (j:Nat) (o:Oper) cs b,ops[j]? = some o->o.op≠.select cs b) :
  ∀ (f:Nat) (L:Array Bool) (a:Act),
   (∀ j oj,ops[j]? = some oj->j≠i->L.getD j true=false->(∀ e ∈ oj.after,Region.binds .any e=true->e.on≠i)->oi.apart ops oj=true) ->
   i ∈ Region.ready .any ops L->Gives P ops CL i oi v a->Any P ops CL Q f (L.setIfInBounds i true) (a.put oi.dst v)->Any P ops CL Q (f+1) L a:=by
 intro f
 induction f with
 |zero =>
  intro L a _ hr hy H;refine ⟨fun h=>(by rw [h] at hr;cases hr),fun j hj=>?_⟩
  rcases Nat.decEq j i with E8 | E8
  ·have:=ready_mono hj E8;rw [H.1] at this
   cases this
  ·subst E8;exact ⟨oi,v,hi,hy,H⟩
 |succ f ih =>
  intro L a hfree hr hy H;refine ⟨fun h=>(by rw [h] at hr;cases hr),fun j hj=>?_⟩
  rcases Nat.decEq j i with E8 | E8
  ·obtain ⟨NM,oj,QC,hall⟩:=mem_ready.1 hj;obtain ⟨hiu,_⟩:=mem_ready.1 hr;have hno:∀ e ∈ oj.after,Region.binds .any e=true->e.on≠i:=by
    intro e he hb heq;have h1:=hall e he hb;rw [heq] at h1
    rcases Nat.lt_or_ge i L.size with h' | h'
    ·simp [h'] at hiu h1
     rw [hiu] at h1
     cases h1
    ·simp [Array.getElem?_eq_none h'] at h1
   have h2:=At.swap QC (hfree j oj QC E8 NM hno) (fun cs b=>hsel i oi cs b hi) (fun cs b=>hsel j oj cs b QC) hy (H.2 j (ready_mono hj E8));refine h2.mono fun a' h3=>ih (L.setIfInBounds j true) a' (fun k ok hk OO hu hn=>?_) (ready_mono hr (Ne.symm E8)) h3.1 ?_
   ·refine hfree k ok hk OO ?_ hn
    by_cases hjk:j=k
    ·subst hjk;exact NM
    ·rw [getD_set_ne true hjk] at hu;exact hu
   ·rw [Array.setIfInBounds_comm _ _ E8];exact h3.2
  ·subst E8;exact ⟨oi,v,hi,hy,H⟩
theorem Any.lex{Q:Act->Prop}(hs:Region.noSelect ops=true):∀ (l:List Oper) (k:Nat) (L:Array Bool) (a:Act),(∀ j,l[j]? = ops[k+j]?) ->
  Region.lexFrom .any ops l.length k L=true->Aa P ops CL Q l k a->Any P ops CL Q l.length L a:=by
 intro l
 induction l with
 |nil=>exact fun k L a _ hB h=>⟨by simpa [Region.lexFrom] using hB,h⟩
 |cons o l ih =>
  intro k L a hl hB h;have h0:ops[k]? = some o:=by simpa using (hl 0).symm
  simp only [List.length_cons,Region.lexFrom,Bool.and_eq_true] at hB;obtain ⟨⟨hr,hf⟩,hB'⟩:=hB;obtain ⟨v,hy,hK⟩:=h;exact Any.first h0 (Region.noSelect_spec hs) l.length L a (Region.free_spec h0 hf) (by simpa using hr) hy
   (ih (k+1) _ _ (fun j=>by have:=hl (j+1);simpa [Nat.add_assoc,Nat.add_comm 1 j] using this) hB' hK)
end
theorem all_listed{l:List Oper}{L:Array Bool}(BB:fT (l++[default]) l.length=true)(hs:L.size=l.length)(h:Region.ready .any l.toArray L=[]):L=Array.replicate l.length true:=by
 have h0:∀ i,i<l.length->L.getD i true=true:=by
  intro i
  induction i using Nat.strongRecOn with
  |_ i ih =>
   intro hi
   cases hl:L.getD i true with
   |true=>rfl
   |false =>
    exfalso;have ho:l[i]? = some l[i]:=List.getElem?_eq_getElem hi;have C3:(l++[default])[i]? = some l[i]:=by rw [List.getElem?_append_left hi];exact ho
    have hm:i ∈ Region.ready .any l.toArray L:=by
     refine mem_ready.2 ⟨hl,l[i],by simp,fun e he hb=>?_⟩;have hlt:=(lF BB hi C3).1 e he hb;have:=ih e.on hlt (by omega);rw [ez (by omega)];exact this
    rw [h] at hm
    cases hm
 apply Array.ext
 ·simp [hs]
 ·intro i h1 h2;have:=h0 i (by omega);rw [Array.getD_eq_getD_getElem?,Array.getElem?_eq_getElem h1] at this
  simpa using this
theorem region{P:Program}{id:Nat}{Q:Exit->Act->World->Prop}{a:Act}{w:World}{l:List Oper}(CL:Array Bool->World->Prop)(hm:P.follows .mixedOrders=true)(hB:Region.lexB .any l.toArray=true)(BB:fT (l++[default]) l.length=true)
  (hC:CL (Array.replicate l.length false) { w with drawn:=w.drawn+1 }) (h:Aa P l.toArray CL (fun a'=>∀ w',CL (Array.replicate l.length true) w'->Q .normal a' w') l 0 a):(Code.region id l.toArray true).wp P Q a w:=by
 simp only [Region.lexB,Bool.and_eq_true] at hB;refine wp_region_any hm ?_;have:=Any.lex (CL:=CL) hB.1 l 0 (Array.replicate l.toArray.size false) a (by simp) (by simpa using hB.2) h;refine tU (Q:=fun a'=>∀ w',CL (Array.replicate l.length true) w'->Q .normal a' w') (fun L a' w' hs hr Kw hq=>?_) _ _ _ _ (by simp) (by simpa using hC) (by simpa using this);rw [all_listed BB (by simpa using hs) hr] at Kw;exact hq w' Kw
section
variable {P : Program} {ops : Array Oper} {CL : Array Bool → World → Prop} {Q : Act → Prop}
def AS(o:Oper):Bool:=match o.op with | .move _ | .assign _ | .load _ _ | .binOp _ _ _ _ _ | .unOp _ _ _ | .convert _ _ _ | .slice _ _ _ _ _ | .fieldAddr _ _ _ | .field _ _ _ | .indexAddr _ _ _ | .index _ _ _ | .extract _ _ | .build _ _ | .makeInterface _ _ | .pick _ _ _=>false | _=>true
structure Spot (CL:Array Bool->World->Prop) where
 listed:Array Bool
 tz9:World
 ok:CL listed tz9
end
theorem put_lit(l:List Value)(d:List Deferred)(n:Nat)(v:Value):(Act.mk l.toArray d).put (some n) v=⟨(l.set n v).toArray,d⟩:=by
 unfold Act.put
 simp
def one(L:Array Bool)(i:Nat):Nat:=if L.getD i false=true then 1 else 0
theorem one_ne{L:Array Bool}{i j:Nat}(h:i≠j):one (L.setIfInBounds i true) j=one L j:=by
 unfold one;rw [getD_set_ne false h]
theorem one_set{L:Array Bool}{i:Nat}(h:i<L.size):one (L.setIfInBounds i true) i=1:=by
 unfold one;rw [Array.getD_eq_getD_getElem?,Array.getElem?_setIfInBounds_self_of_lt h]
 rfl
theorem one_ready{P:Array Oper}{L:Array Bool}{i:Nat}(h:i ∈ Region.ready .any P L):one L i=0:=by
 unfold one;have h0:=(mem_ready.1 h).1
 rcases Nat.lt_or_ge i L.size with h' | h'
 ·rw [ez h',h0];rfl
 ·rw [Array.getD_eq_getD_getElem?,Array.getElem?_eq_none h'] at h0
  cases h0
theorem one_un{L:Array Bool}{i:Nat}(h:L.getD i false=false):one L i=0:=by
 unfold one;rw [h];rfl
theorem one_none(n i:Nat):one (Array.replicate n false) i=0:=by
 unfold one;rw [getD_replicate_false]
 rfl
theorem one_all{n i:Nat}(h:i<n):one (Array.replicate n true) i=1:=by
 unfold one;rw [Array.getD_eq_getD_getElem?,Array.getElem?_replicate,if_pos h]
 rfl
end Mix
end
section
open Go.RowKit
def Has(w:World)(g:Nat)(C:List Value)(t:TypeId):Prop:=w.heap[g]? = some (.cells C.toArray t (0,0))
theorem Has.lt{w:World}{g:Nat}{C:List Value}{t:TypeId}(h:Has w g C t):g<w.heap.size:=(Array.getElem?_eq_some_iff.1 h).1
theorem Has.cell{w:World}{g:Nat}{C:List Value}{t:TypeId}(h:Has w g C t)(i:Nat)(v:Value)(hv:C[i]? = some v):w.cell? ⟨g,i,none⟩=some v:=by
 rw [cell_of_row w g i C.toArray t (0,0) h];simpa using hv
theorem Has.free{w:World}{g:Nat}{C:List Value}{t:TypeId}(h:Has w g C t)(i:Nat):w.frozen? ⟨g,i,none⟩=false:=frozen_of_row w g i C.toArray t h
theorem Has.new(w:World)(C:List Value)(t:TypeId):Has (w.alloc (.cells C.toArray t)) w.heap.size C t:=heap_alloc_new w _
theorem Has.set{w:World}{g:Nat}{C:List Value}{t:TypeId}(h:Has w g C t)(i:Nat)(v:Value):Has (w.setCell ⟨g,i,none⟩ v) g (C.set i v) t:=by
 have:=heap_setCell_same w g i C.toArray t v h;unfold Has;rw [this]
 simp
theorem Has.setOther{w:World}{g:Nat}{C:List Value}{t:TypeId}(h:Has w g C t)(a:Addr)(v:Value)(hne:g≠a.block):Has (w.setCell a v) g C t:=by
 unfold Has;rw [heap_setCell_other w a g v hne];exact h
theorem Has.alloc{w:World}{g:Nat}{C:List Value}{t:TypeId}(h:Has w g C t)(o:Obj):Has (w.alloc o) g C t:=by
 have hl:=h.lt;unfold Has World.alloc at *;simp only;rw [Array.getElem?_push_lt hl,<-Array.getElem?_eq_getElem hl];exact h
theorem Has.drewN{w:World}{g:Nat}{C:List Value}{t:TypeId}(h:Has w g C t)(n:Nat):Has (w.drewN n) g C t:=h
theorem Has.below{w w':World}{g B:Nat}{C:List Value}{t:TypeId}(h:Has w g C t)(hb:Below B w w')(hg:g<B):Has w' g C t:=(hb.block g hg).trans h
structure But (g B:Nat) (w w':World):Prop where
 os:w'.os=w.os
 tape:w'.tape=w.tape
 output:w'.output=w.output
 size:w.heap.size<=w'.heap.size
 block:∀ k,k<B->k≠g->w'.heap[k]? = w.heap[k]?
theorem But.refl(g B:Nat)(w:World):But g B w w:=⟨rfl,rfl,rfl,Nat.le_refl _,fun _ _ _=>rfl⟩
theorem But.trans{g B:Nat}{a b c:World}(h:But g B a b)(k:But g B b c):But g B a c :=
 ⟨k.os.trans h.os,k.tape.trans h.tape,k.output.trans h.output,Nat.le_trans h.size k.size,fun i hi hn=>(k.block i hi hn).trans (h.block i hi hn)⟩
theorem But.ofBelow{g B:Nat}{w w':World}(h:Below B w w'):But g B w w':=⟨h.os,h.tape,h.output,h.size,fun k hk _=>h.block k hk⟩
theorem But.mono{g B B':Nat}{w w':World}(h:But g B w w')(hb:B'<=B):But g B' w w':=⟨h.os,h.tape,h.output,h.size,fun k hk hn=>h.block k (by omega) hn⟩
theorem But.below{g B B':Nat}{w w':World}(h:But g B w w')(hb:B'<=B)(hg:B'<=g):Below B' w w':=⟨h.os,h.tape,h.output,h.size,fun k hk=>h.block k (by omega) (by omega)⟩
theorem But.set{g B:Nat}{w w':World}(h:But g B w w')(i:Nat)(v:Value):But g B w (w'.setCell ⟨g,i,none⟩ v) :=
 ⟨h.os,h.tape,h.output,by rw [World.size_setCell];exact h.size,fun k hk hn=>by rw [heap_setCell_other w' ⟨g,i,none⟩ k v hn];exact h.block k hk hn⟩
theorem But.alloc{g B:Nat}{w w':World}(h:But g B w w')(hB:B<=w.heap.size)(o:Obj):But g B w (w'.alloc o):=by
 have:=h.size;exact h.trans (.ofBelow ((Below.refl B w').alloc (by omega) o))
theorem But.drewN{g B:Nat}{w w':World}(h:But g B w w')(n:Nat):But g B w (w'.drewN n):=⟨h.os,h.tape,h.output,h.size,h.block⟩
theorem Has.but{w w':World}{g g' B:Nat}{C:List Value}{t:TypeId}(h:Has w g C t)(hb:But g' B w w')(hg:g<B)(hn:g≠g'):Has w' g C t:=(hb.block g hg hn).trans h
theorem gn{w w':World}{g B e size:Nat}{v:Value}{n:Nat}{xs:List Value}(h:w.ownsRow B e size v n xs)(hb:But g w.heap.size w w')(hg:g<B):w'.ownsRow B e size v n xs:=by
 refine ⟨h.1,?_⟩
 rcases h.2 with hn | ⟨r,cap,cur,rfl,hB,hr,rest⟩
 ·exact .inl hn
 ·exact .inr ⟨r,cap,cur,rfl,hB,(hb.block r (Array.getElem?_eq_some_iff.1 hr).1 (by omega)).trans hr,rest⟩
theorem fd(w:World)(g:Nat)(x y z:Value):But g w.heap.size w (((w.setCell ⟨g,0,none⟩ x).setCell ⟨g,1,none⟩ y).setCell ⟨g,2,none⟩ z) :=
 (((But.refl _ _ _).set 0 _).set 1 _).set 2 _
end
theorem nT{w:World}{base:Nat}{e:TypeId}{size g cap n m:Nat}{xs ys:List Value}(h:w.ownsRow base e size (.slice (some ⟨g,0,none⟩) (n+m) cap) (n+m) (xs++ys))(hx:xs.length=n * size) :
  w.ownsRow base e size (.slice (some ⟨g,0,none⟩) n cap) n xs:=by
 rcases h.2 with ⟨h',_⟩ | ⟨g',cap',cur,h',hb,hg,IR,hcm,hcs,ht⟩
 ·simp at h'
 ·simp only [Value.slice.injEq,Option.some.injEq,Addr.mk.injEq,and_true,true_and] at h';obtain ⟨rfl,rfl⟩:=h';refine ⟨hx,.inr ⟨g,cap,cur,rfl,hb,hg,by omega,hcm,hcs,?_⟩⟩;have h2:=congrArg (List.take (n * size)) ht;rw [List.take_take,Nat.min_eq_left (Nat.mul_le_mul_right _ (by omega)),<-hx,List.take_left] at h2;rw [<-hx];exact h2
theorem eI{P:Program}(w:World)(base:Nat)(t ty e:TypeId)(i:TypeInfo)(z:Value)(size bytes:Nat)(ht:P.underlying t=some (.slice e))(hi:P.info? e=some i)(hz:i.zero=some z)
  (hsize:i.size=size) (hby:i.bytes=bytes) (hzs:z.cells.size=size) (hsz:0<size)
  (v:Value) (n:Nat) (xs:List Value) (hown:w.ownsRow base e size v n xs)
  (a:Addr) (m c:Nat) (news:List Value) (hl:news.length=m * size) (hnews:∀ j u,news[j]? = some u->w.cell? (a.add j)=some u) (h1:∀ u ∈ news,u.oneCell'=true)
  (h63:n+m<=maxLen) (hbytes:(n+m) * bytes<=140737488355328) (hbase:base<=w.heap.size) :
  ∃ v' w',(Builtin.append_ #[t,t] ty #[v,.slice (some a) m c]).run P w=.ok v' w'/\w'.ownsRow base e size v' (n+m) (xs++news)/\w.grownBy w' v.ownBlock/\w'.ownsRow base e size v n xs /\
   ((∀ g,g<w.heap.size->w'.heap[g]? = w.heap[g]?)\/∃ g cap,v=.slice (some ⟨g,0,none⟩) n cap/\v'=.slice (some ⟨g,0,none⟩) (n+m) cap):=by
 have hsmall:n+m<=9223372036854775807:=by simp only [maxLen] at h63;omega
 obtain ⟨v',w',hr,h2,h3,_⟩:=run_append_own (P:=P) w base t ty e i z size bytes ht hi hz hsize hby hzs hsz v n xs hown a m c news hl hnews h1 h63 hbytes hbase
 rcases hown.2 with ⟨rfl,rfl⟩ | ⟨g,cap,cur,rfl,hb,hg,IR,hcm,hcs,NG⟩
 ·have hx:xs=[]:=List.eq_nil_of_length_eq_zero (by simpa using hown.1);subst hx;exact ⟨v',w',hr,h2,h3,World.ownsRow_nil _ _ _ _,.inl fun g hg=>h3.block g hg (by simp [Value.ownBlock])⟩
 ·by_cases hroom:n+m<=cap
  ·obtain ⟨w2,hr2,h4,h5⟩:=run_append_fits (P:=P) w base t ty e i size ht hi hsize g n cap xs hown a m c news hl hnews h1 hroom;rw [hr2] at hr
   cases hr
   exact ⟨_,_,hr2,h4,h3,nT h4 hown.1,.inr ⟨g,cap,rfl,rfl⟩⟩
  ·subst hsize;subst hby;have hr2:=run_append_grow (P:=P) w t ty e i z ht hi hz ⟨g,0,none⟩ n cap xs hown.1 (hown.cells (g:=g) rfl) a m c news hl hnews (by omega) (by omega) (growslice_fits (by omega) hbytes);rw [hr2] at hr
   cases hr
   have hold:∀ k,k<w.heap.size->(w.drew.alloc (.cells (xs.toArray++news.toArray++Builtin.zeroCells z.cells (grownCap w (n+m) cap e - (n+m))) e)).heap[k]? = w.heap[k]?:=fun k hk=>by
    show (w.heap.push _)[k]? = _;rw [Array.getElem?_push,if_neg (by omega)]
   refine ⟨_,_,hr2,h2,h3,⟨hown.1,.inr ⟨g,cap,cur,rfl,hb,?_,IR,hcm,hcs,NG⟩⟩,.inl hold⟩;rw [hold g (Array.getElem?_eq_some_iff.1 hg).1];exact hg
theorem dt{w w':World}{base:Nat}{e:TypeId}{size:Nat}{v:Value}{n:Nat}{xs:List Value}(h:w.ownsRow base e size v n xs)(hk:∀ g,v.ownBlock=some g->w'.heap[g]? = w.heap[g]?):w'.ownsRow base e size v n xs:=by
 refine ⟨h.1,?_⟩
 rcases h.2 with h | ⟨g,cap,cur,rfl,hb,hg,h1⟩
 ·exact .inl h
 ·exact .inr ⟨g,cap,cur,rfl,hb,(hk g rfl).trans hg,h1⟩
def Kept(w w':World)(base:Nat)(e:TypeId)(size:Nat)(D C:List Value)(m:Nat):Prop :=
 (∀ v n xs,w.ownsRow base e size v n xs->xs <+: D->w'.ownsRow base e size v n xs)/\∀ g,w.ownsRow base e size (.slice (some ⟨g,0,none⟩) m m) m C->w'.ownsRow base e size (.slice (some ⟨g,0,none⟩) m m) m C
theorem Kept.refl(w:World)(base:Nat)(e:TypeId)(size:Nat)(D C:List Value)(m:Nat):Kept w w base e size D C m:=⟨fun _ _ _ h _=>h,fun _ h=>h⟩
theorem Kept.below{w w':World}(hb:Below w.heap.size w w')(base:Nat)(e:TypeId)(size:Nat)(D C:List Value)(m:Nat):Kept w w' base e size D C m:=⟨fun _ _ _ h _=>aA h hb,fun _ h=>aA h hb⟩
theorem kN{P:Program}(w:World)(base:Nat)(t ty e:TypeId)(i:TypeInfo)(z:Value)(size bytes:Nat)(ht:P.underlying t=some (.slice e))(hi:P.info? e=some i)(hz:i.zero=some z)
  (hsize:i.size=size) (hby:i.bytes=bytes) (hzs:z.cells.size=size) (hsz:0<size)
  (v:Value) (n:Nat) (xs:List Value) (hown:w.ownsRow base e size v n xs)
  (a:Addr) (m c:Nat) (news:List Value) (hl:news.length=m * size) (hnews:∀ j u,news[j]? = some u->w.cell? (a.add j)=some u) (h1:∀ u ∈ news,u.oneCell'=true)
  (h63:n+m<=maxLen) (hbytes:(n+m) * bytes<=140737488355328) (hbase:base<=w.heap.size) :
  ∃ v' w',(Builtin.append_ #[t,t] ty #[v,.slice (some a) m c]).run P w=.ok v' w'/\w'.ownsRow base e size v' (n+m) (xs++news)/\w.grownBy w' v.ownBlock/\Kept w w' base e size (xs++news) news m:=by
 obtain ⟨v',w',hr,h2,h3,_,h5⟩:=eI w base t ty e i z size bytes ht hi hz hsize hby hzs hsz v n xs hown a m c news hl hnews h1 h63 hbytes hbase;refine ⟨v',w',hr,h2,h3,?_⟩;have lt:∀ {u:Value} {k:Nat} {ys:List Value},w.ownsRow base e size u k ys->∀ g,u.ownBlock=some g->g<w.heap.size:=fun h g hg=>(h.lt g hg).2
 have K1:∀ u k ys,w.ownsRow base e size u k ys->ys <+: xs++news->w'.ownsRow base e size u k ys:=by
  intro u k ys hu hp
  rcases h5 with h5 | ⟨g,cap,rfl,rfl⟩
  ·exact dt hu fun g hg=>h5 g (lt hu g hg)
  ·by_cases hg:u.ownBlock=some g
   ·rcases hu.2 with ⟨rfl,_⟩ | ⟨g2,cap2,cur2,rfl,hb2,hg2,EZ,F5,hc2,KN⟩
    ·simp [Value.ownBlock] at hg
    ·obtain rfl:g2=g:=by simpa [Value.ownBlock] using hg
     rcases hown.2 with ⟨h',_⟩ | ⟨g1,cap1,cur1,h',hb1,hg1,Eg,NY,hc1,PA⟩
     ·simp at h'
     ·simp only [Value.slice.injEq,Option.some.injEq,Addr.mk.injEq,and_true,true_and] at h';obtain ⟨rfl,rfl⟩:=h';rw [hg1] at hg2
      cases hg2
      have Cd:cap2=cap:=Nat.eq_of_mul_eq_mul_right hsz (by omega);subst Cd
      rcases h2.2 with ⟨h',_⟩ | ⟨g3,cap3,cur3,h',hb3,hg3,hn3,Ow,hc3,ht3⟩
      ·simp at h'
      ·simp only [Value.slice.injEq,Option.some.injEq,Addr.mk.injEq,and_true,true_and] at h';obtain ⟨rfl,rfl⟩:=h';refine ⟨hu.1,.inr ⟨_,_,cur3,rfl,hb3,hg3,EZ,F5,hc3,?_⟩⟩;have hle:k * size<=(n+m) * size:=by rw [<-hu.1,<-h2.1];exact hp.length_le
       have h6:=congrArg (List.take (k * size)) ht3;rw [List.take_take,Nat.min_eq_left hle] at h6;rw [h6,<-hu.1];exact (List.prefix_iff_eq_take.1 hp).symm
   ·exact dt hu fun g2 hg2=>h3.block g2 (lt hu g2 hg2) fun e=>hg (by rw [hg2];exact e)
 refine ⟨K1,fun g2 hu=>?_⟩
 rcases h5 with h5 | ⟨g,cap,rfl,rfl⟩
 ·exact dt hu fun g hg=>h5 g (lt hu g hg)
 ·by_cases hg:g2=g
  ·subst hg
   rcases hown.2 with ⟨h',_⟩ | ⟨g1,cap1,cur1,h',hb1,hg1,Eg,NY,hc1,PA⟩
   ·simp at h'
   ·simp only [Value.slice.injEq,Option.some.injEq,Addr.mk.injEq,and_true,true_and] at h';obtain ⟨rfl,rfl⟩:=h'
    rcases hu.2 with ⟨h',_⟩ | ⟨g3,cap3,cur3,h',hb3,hg3,hn3,Ow,hc3,ht3⟩
    ·simp at h'
    ·simp only [Value.slice.injEq,Option.some.injEq,Addr.mk.injEq,and_true,true_and] at h';obtain ⟨rfl,rfl⟩:=h';rw [hg1] at hg3
     cases hg3
     have Cd:m=cap:=Nat.eq_of_mul_eq_mul_right hsz (by omega);subst Cd
     rcases h2.2 with ⟨h',_⟩ | ⟨g4,cap4,cur4,h',hb4,hg4,Qq,_⟩
     ·simp at h'
     ·simp only [Value.slice.injEq,Option.some.injEq,Addr.mk.injEq,and_true,true_and] at h';obtain ⟨rfl,rfl⟩:=h';have h0:n=0:=by omega
      subst h0;have hx:xs=[]:=List.eq_nil_of_length_eq_zero (by simpa using hown.1);subst hx;exact K1 _ _ _ hu (List.prefix_refl _)
  ·exact dt hu fun g3 hg3=>h3.block g3 (lt hu g3 hg3) fun e=>hg (by simp [Value.ownBlock] at hg3 e;omega)
section
abbrev an:=Nat->Prop
structure KeepZ (Z:an) (w w':World):Prop where
 size:w.heap.size<=w'.heap.size
 block:∀ b,b<w.heap.size->Z b->w'.heap[b]? = w.heap[b]?
theorem KeepZ.refl(Z:an)(w:World):KeepZ Z w w:=⟨Nat.le_refl _,fun _ _ _=>rfl⟩
theorem KeepZ.trans{Z:an}{a b c:World}(h:KeepZ Z a b)(k:KeepZ Z b c):KeepZ Z a c :=
 ⟨Nat.le_trans h.size k.size,fun i hi hz=>(k.block i (Nat.lt_of_lt_of_le hi h.size) hz).trans (h.block i hi hz)⟩
theorem KeepZ.mono{Z Y:an}{w w':World}(h:KeepZ Z w w')(hz:∀ b,b<w.heap.size->Y b->Z b):KeepZ Y w w':=⟨h.size,fun b hb hy=>h.block b hb (hz b hb hy)⟩
theorem KeepZ.below{B:Nat}{w w':World}(h:Below B w w'):KeepZ (fun b=>b<B) w w':=⟨h.size,fun b _ hz=>h.block b hz⟩
theorem KeepZ.all{w w':World}(h:Below w.heap.size w w')(Z:an):KeepZ Z w w':=⟨h.size,fun b hb _=>h.block b hb⟩
theorem KeepZ.grown{w w':World}{row:Option Nat}(h:w.grownBy w' row):KeepZ (fun b=>row≠some b) w w':=⟨h.size,fun b hb hz=>h.block b hb (Ne.symm hz)⟩
theorem KeepZ.but{g:Nat}{w w':World}(h:But g w.heap.size w w'):KeepZ (fun b=>b≠g) w w':=⟨h.size,fun b hb hz=>h.block b hb hz⟩
theorem KeepZ.cell{Z:an}{w w':World}(h:KeepZ Z w w'){b o:Nat}(hb:b<w.heap.size)(hz:Z b):w'.cell? ⟨b,o,none⟩=w.cell? ⟨b,o,none⟩:=World.cell?_of_block (a:=⟨b,o,none⟩) (h.block b hb hz)
theorem KeepZ.has{Z:an}{w w':World}(h:KeepZ Z w w'){g:Nat}{C:List Value}{t:TypeId}(hg:Has w g C t)(hz:Z g):Has w' g C t:=(h.block g hg.lt hz).trans hg
theorem KeepZ.own{Z:an}{w w':World}(h:KeepZ Z w w'){B e size n:Nat}{v:Value}{xs:List Value}(ho:w.ownsRow B e size v n xs)(hz:∀ b,v.ownBlock=some b->Z b):w'.ownsRow B e size v n xs:=by
 refine ⟨ho.1,?_⟩
 rcases ho.2 with hn | ⟨g,cap,cur,rfl,hB,hg,rest⟩
 ·exact .inl hn
 ·exact .inr ⟨g,cap,cur,rfl,hB,(h.block g (Array.getElem?_eq_some_iff.1 hg).1 (hz g rfl)).trans hg,rest⟩
structure Elem (α:Type) where
 size:Nat
 zero:α
 rep:an->World->List Value->α->Prop
 len:∀ {Z:an} {w:World} {C:List Value} {x:α},rep Z w C x->C.length=size
 one:∀ {Z:an} {w:World} {C:List Value} {x:α},rep Z w C x->∀ u ∈ C,u.oneCell'=true
 keep:∀ {Z Y:an} {w w':World} {C:List Value} {x:α},KeepZ Z w w'->(∀ b,b<w.heap.size->Z b->Y b)->rep Z w C x->rep Y w' C x
def HeldE{α:Type}(E:Elem α)(Z:an)(w:World)(v:Value)(L:List α):Prop :=
 ∃ ao cap,v=.slice ao L.length cap/\L.length<=cap/\cap<=maxLen/\(ao=none->L=[]/\cap=0) /\
  ∀ i,i<L.length->∃ b off,ao=some ⟨b,off,none⟩/\b<w.heap.size/\Z b/\∃ C,(∀ j,j<E.size->w.cell? ⟨b,off+i * E.size+j,none⟩=C[j]?)/\E.rep Z w C (L.getD i E.zero)
section
variable {α : Type} {E : Elem α} {Z Y : an} {w w' : World} {v u : Value} {L M : List α}
theorem HeldE.nil(E:Elem α)(Z:an)(w:World):HeldE E Z w (.slice none 0 0) []:=⟨none,0,rfl,Nat.le_refl _,Nat.zero_le _,fun _=>⟨rfl,rfl⟩,fun i hi=>absurd hi (Nat.not_lt_zero _)⟩
theorem HeldE.keep(h:HeldE E Z w v L)(hk:KeepZ Z w w')(hy:∀ b,b<w.heap.size->Z b->Y b):HeldE E Y w' v L:=by
 obtain ⟨ao,cap,rfl,hl,hm,hn,hc⟩:=h;refine ⟨ao,cap,rfl,hl,hm,hn,fun i hi=>?_⟩;obtain ⟨b,off,rfl,hb,hz,C,hC,hr⟩:=hc i hi;exact ⟨b,off,rfl,Nat.lt_of_lt_of_le hb hk.size,hy b hb hz,C,fun j hj=>(hk.cell hb hz).trans (hC j hj),E.keep hk hy hr⟩
theorem HeldE.kept(h:HeldE E Z w v L)(hk:KeepZ Z w w'):HeldE E Z w' v L:=h.keep hk fun _ _ hz=>hz
theorem HeldE.below(h:HeldE E Z w v L)(hb:Below w.heap.size w w'):HeldE E Z w' v L:=h.kept (.all hb Z)
theorem HeldE.zone(h:HeldE E Z w v L)(hy:∀ b,b<w.heap.size->Z b->Y b):HeldE E Y w v L:=h.keep (.refl _ _) hy
theorem HeldE.len(h:HeldE E Z w v L):∃ ao cap,v=.slice ao L.length cap:=by
 obtain ⟨ao,cap,rfl,_⟩:=h;exact ⟨ao,cap,rfl⟩
theorem HeldE.max(h:HeldE E Z w v L):L.length<=9223372036854775807:=by
 obtain ⟨ao,cap,rfl,hl,hm,_⟩:=h;unfold maxLen at hm;omega
theorem HeldE.spots{ao:Option Addr}{n cap:Nat}(h:HeldE E Z w (.slice ao n cap) L):n=L.length/\n<=cap/\∀ i,i<L.length->∃ b off,ao=some ⟨b,off,none⟩/\b<w.heap.size/\Z b/\∃ C,(∀ j,j<E.size->w.cell? ⟨b,off+i * E.size+j,none⟩=C[j]?)/\E.rep Z w C (L.getD i E.zero):=by
 obtain ⟨ao',cap',he,hl,_,_,hc⟩:=h
 cases he
 exact ⟨rfl,hl,hc⟩
theorem HeldE.nilL{n cap:Nat}(h:HeldE E Z w (.slice none n cap) L):L=[]/\n=0/\cap=0:=by
 obtain ⟨ao',cap',he,hl,_,hn,hc⟩:=h
 cases he
 obtain ⟨rfl,rfl⟩:=hn rfl;exact ⟨rfl,rfl,rfl⟩
theorem HeldE.part{ao:Option Addr}{n cap:Nat}(h:HeldE E Z w (.slice ao n cap) L)(lo hi:Nat)(h1:lo<=hi)(h2:hi<=L.length) :
  ∀ a' cap',(ao=none->a'=none/\cap'=0)->(∀ b off,ao=some ⟨b,off,none⟩->lo<hi->a'=some ⟨b,off+lo * E.size,none⟩)->(∀ a,ao=some a->a'≠none)->hi - lo<=cap'->cap'<=maxLen->HeldE E Z w (.slice a' (hi - lo) cap') ((L.drop lo).take (hi - lo)):=by
 intro a' cap' hn hs hne hc hm;obtain ⟨_,_,hsp⟩:=h.spots;have hlen:((L.drop lo).take (hi - lo)).length=hi - lo:=by simp;omega
 refine ⟨a',cap',by rw [hlen],by rw [hlen];exact hc,hm,fun he=>?_,fun i hi'=>?_⟩
 ·cases ao with
  |none =>
   obtain ⟨rfl,rfl,rfl⟩:=h.nilL;exact ⟨by simp,(hn rfl).2⟩
  |some a=>exact absurd he (hne a rfl)
 ·rw [hlen] at hi';obtain ⟨b,off,rfl,hb,hz,C,hC,hr⟩:=hsp (lo+i) (by omega);refine ⟨b,off+lo * E.size,hs b off rfl (by omega),hb,hz,C,fun j hj=>?_,?_⟩
  ·rw [<-hC j hj,Nat.add_mul,Nat.add_assoc off]
  ·rw [show ((L.drop lo).take (hi - lo)).getD i E.zero=L.getD (lo+i) E.zero from by simp [List.getD,List.getElem?_take,hi',List.getElem?_drop]];exact hr
end
def aF(k:IntKind):Elem Int where
 size:=1
 zero:=0
 rep:=fun _ _ C x=>C=[.int k x]
 len:=by rintro _ _ _ _ rfl;rfl
 one:=by
  rintro _ _ _ _ rfl u hu
  simp at hu
  subst hu;rfl
 keep:=fun _ _ h=>h
def Ax:Elem Bool where
 size:=1
 zero:=false
 rep:=fun _ _ C x=>C=[.bool x]
 len:=by rintro _ _ _ _ rfl;rfl
 one:=by
  rintro _ _ _ _ rfl u hu
  simp at hu
  subst hu;rfl
 keep:=fun _ _ h=>h
def slE{α:Type}(E:Elem α):Elem (List α) where
 size:=1
 zero:=[]
 rep:=fun Z w C L=>∃ v,C=[v]/\HeldE E Z w v L
 len:=by rintro _ _ _ _ ⟨v,rfl,_⟩;rfl
 one:=by
  rintro _ _ _ _ ⟨v,rfl,h⟩ u hu
  simp at hu
  subst hu;obtain ⟨ao,cap,rfl,_⟩:=h
  rfl
 keep:=by
  rintro _ _ _ _ _ _ hk hy ⟨v,rfl,h⟩;exact ⟨v,rfl,h.keep hk hy⟩
def prE{α β:Type}(E:Elem α)(F:Elem β):Elem (α × β) where
 size:=E.size+F.size
 zero:=(E.zero,F.zero)
 rep:=fun Z w C x=>∃ C1 C2,C=C1++C2/\E.rep Z w C1 x.1/\F.rep Z w C2 x.2
 len:=by
  rintro _ _ _ _ ⟨C1,C2,rfl,h1,h2⟩;rw [List.length_append,E.len h1,F.len h2]
 one:=by
  rintro _ _ _ _ ⟨C1,C2,rfl,h1,h2⟩ u hu
  rcases List.mem_append.1 hu with h | h
  ·exact E.one h1 u h
  ·exact F.one h2 u h
 keep:=by
  rintro _ _ _ _ _ _ hk hy ⟨C1,C2,rfl,h1,h2⟩;exact ⟨C1,C2,rfl,E.keep hk hy h1,F.keep hk hy h2⟩
theorem HeldE.ints{k:IntKind}{Z:an}{w:World}{v:Value}{xs:List Int}(h:HeldE (aF k) Z w v xs):Held k w v xs:=by
 obtain ⟨ao,cap,rfl,_,_,hn,hc⟩:=h;refine ⟨ao,cap,rfl,hn,fun i hi=>?_⟩;obtain ⟨b,off,rfl,hb,_,C,hC,rfl⟩:=hc i hi;refine ⟨b,off,rfl,hb,?_⟩;have:=hC 0 (Nat.lt_succ_self 0)
 simpa [aF] using this
theorem rd{k:IntKind}{Z:an}{w:World}{ao:Option Addr}{n cap:Nat}{xs:List Int}(h:Held k w (.slice ao n cap) xs)(hc:n<=cap)(hm:cap<=maxLen)(hz:∀ a,ao=some a->a.block<w.heap.size->Z a.block):HeldE (aF k) Z w (.slice ao n cap) xs:=by
 obtain ⟨ao',cap',he,hn,hcc⟩:=h
 cases he
 refine ⟨ao,cap,rfl,hc,hm,hn,fun i hi=>?_⟩;obtain ⟨b,off,rfl,hb,h1⟩:=hcc i hi;refine ⟨b,off,rfl,hb,hz _ rfl hb,[.int k (xs.getD i 0)],fun j hj=>?_,rfl⟩;have hj0:j=0:=by simp [aF] at hj;omega
 subst hj0
 simpa [aF] using h1
theorem ew{s:Nat}:∀ {CS:List (List Value)},(∀ C ∈ CS,C.length=s)->CS.flatten.length=CS.length * s
 |[],_=>by simp
 |C :: CS,h=>by
  rw [List.flatten_cons,List.length_append,ew (fun D hD=>h D (List.mem_cons_of_mem _ hD)),h C (by simp),List.length_cons,Nat.add_mul];omega
theorem gm{s:Nat}:∀ {CS:List (List Value)},(∀ C ∈ CS,C.length=s)->∀ i j,i<CS.length->j<s->CS.flatten[i * s+j]? = (CS.getD i [])[j]?
 |[],_,i,_,hi,_=>absurd hi (Nat.not_lt_zero _)
 |C :: CS,h,0,j,_,hj=>by
  rw [List.flatten_cons,Nat.zero_mul,Nat.zero_add,List.getElem?_append_left (by rw [h C (by simp)];exact hj)]
  rfl
 |C :: CS,h,i+1,j,hi,hj=>by
  have:=gm (fun D hD=>h D (List.mem_cons_of_mem _ hD)) i j (by simpa using hi) hj;rw [List.flatten_cons,List.getElem?_append_right (by rw [h C (by simp),Nat.add_mul];omega),h C (by simp),show (i+1) * s+j - s=i * s+j by rw [Nat.add_mul];omega,this]
  rfl
def OwnE{α:Type}(E:Elem α)(Z:an)(w:World)(B:Nat)(ty:TypeId)(v:Value)(L:List α):Prop :=
 ∃ CS:List (List Value),w.ownsRow B ty E.size v L.length CS.flatten/\CS.length=L.length/\∀ i,i<L.length->E.rep (fun b=>Z b/\v.ownBlock≠some b) w (CS.getD i []) (L.getD i E.zero)
section
variable {α : Type} {E : Elem α} {Z Y : an} {w w' : World} {v u : Value} {L M : List α} {B : Nat} {ty : TypeId}
theorem fR{Z:an}{CS:List (List Value)}(hl:CS.length=L.length)(h:∀ i,i<L.length->E.rep Z w (CS.getD i []) (L.getD i E.zero)):∀ C ∈ CS,C.length=E.size:=by
 intro C hC;obtain ⟨i,hi,rfl⟩:=List.getElem_of_mem hC;have:=E.len (h i (by omega))
 rwa [show CS.getD i []=CS[i] from by simp [List.getD,List.getElem?_eq_getElem hi]] at this
theorem vW{Z:an}{CS:List (List Value)}(hl:CS.length=L.length)(h:∀ i,i<L.length->E.rep Z w (CS.getD i []) (L.getD i E.zero)):∀ u ∈ CS.flatten,u.oneCell'=true:=by
 intro u hu;obtain ⟨C,hC,hu⟩:=List.mem_flatten.1 hu;obtain ⟨i,hi,rfl⟩:=List.getElem_of_mem hC;refine E.one (h i (by omega)) u ?_
 rwa [show CS.getD i []=CS[i] from by simp [List.getD,List.getElem?_eq_getElem hi]]
theorem OwnE.nil(E:Elem α)(Z:an)(w:World)(B:Nat)(ty:TypeId):OwnE E Z w B ty (.slice none 0 0) []:=⟨[],World.ownsRow_nil _ _ _ _,rfl,fun i hi=>absurd hi (Nat.not_lt_zero _)⟩
theorem OwnE.empty(h:w.ownsRow B ty E.size v 0 []):OwnE E Z w B ty v []:=⟨[],h,rfl,fun i hi=>absurd hi (Nat.not_lt_zero _)⟩
theorem OwnE.lt(h:OwnE E Z w B ty v L):∀ k,v.ownBlock=some k->B<=k/\k<w.heap.size:=by
 obtain ⟨CS,h,_⟩:=h;exact h.lt
theorem OwnE.keep(h:OwnE E Z w B ty v L)(hk:KeepZ (fun b=>Z b\/v.ownBlock=some b) w w')(hy:∀ b,b<w.heap.size->Z b->Y b):OwnE E Y w' B ty v L:=by
 obtain ⟨CS,h1,h2,h3⟩:=h;refine ⟨CS,hk.own h1 fun b hb=>.inr hb,h2,fun i hi=>E.keep (hk.mono fun b _ hz=>.inl hz.1) (fun b hb hz=>⟨hy b hb hz.1,hz.2⟩) (h3 i hi)⟩
theorem OwnE.below(h:OwnE E Z w B ty v L)(hb:Below w.heap.size w w'):OwnE E Z w' B ty v L:=h.keep (.all hb _) fun _ _ hz=>hz
theorem OwnE.base(h:OwnE E Z w B ty v L){B':Nat}(hb:B'<=B):OwnE E Z w B' ty v L:=by
 obtain ⟨CS,⟨h1,h2⟩,h3,h4⟩:=h;refine ⟨CS,⟨h1,?_⟩,h3,h4⟩
 rcases h2 with h2 | ⟨g,cap,cur,rfl,hB,rest⟩
 ·exact .inl h2
 ·exact .inr ⟨g,cap,cur,rfl,by omega,rest⟩
theorem OwnE.held(h:OwnE E Z w B ty v L)(hz:∀ b,B<=b->b<w.heap.size->Z b):HeldE E Z w v L:=by
 obtain ⟨CS,h1,h2,h3⟩:=h;have Fb:=fR h2 h3
 rcases h1.2 with ⟨rfl,h0⟩ | ⟨g,cap,cur,rfl,hB,hg,hn,hmx,_⟩
 ·have:L=[]:=List.eq_nil_of_length_eq_zero h0;subst this;exact HeldE.nil _ _ _
 ·refine ⟨some ⟨g,0,none⟩,cap,rfl,hn,hmx,(fun e=>by cases e),fun i hi=>?_⟩;have GE:=(Array.getElem?_eq_some_iff.1 hg).1;refine ⟨g,0,rfl,GE,hz g hB GE,CS.getD i [],fun j hj=>?_,E.keep (.refl _ _) (fun b _ h=>h.1) (h3 i hi)⟩;rw [Nat.zero_add,h1.cellAt (i * E.size+j) (by
   have:i * E.size+E.size<=L.length * E.size:=by rw [<-Nat.succ_mul];exact Nat.mul_le_mul_right _ hi
   omega)]
  exact gm Fb i j (by omega) hj
theorem HeldE.news{a:Addr}{n cap:Nat}(h:HeldE E Z w (.slice (some a) n cap) L)(h0:0<E.size):∃ CS:List (List Value),CS.length=L.length/\n=L.length/\(∀ j u,CS.flatten[j]? = some u->w.cell? (a.add j)=some u)/\∀ i,i<L.length->E.rep Z w (CS.getD i []) (L.getD i E.zero):=by
 obtain ⟨hn,_,hc⟩:=h.spots;have hch:∀ i:Fin L.length,∃ C,(∀ j,j<E.size->w.cell? (a.add (i * E.size+j))=C[j]?)/\E.rep Z w C (L.getD i E.zero):=by
  intro i;obtain ⟨b,off,e,_,_,C,h1,h2⟩:=hc i.1 i.2
  cases e
  refine ⟨C,fun j hj=>?_,h2⟩;rw [Addr.add_lit,<-h1 j hj,Nat.add_assoc]
 refine ⟨List.ofFn fun i=>Classical.choose (hch i),by simp,hn,fun j u hj=>?_,fun i hi=>?_⟩
 ·have hlens:∀ C ∈ (List.ofFn fun i=>Classical.choose (hch i)),C.length=E.size:=by
   intro C hC;obtain ⟨i,rfl⟩:=List.mem_ofFn.1 hC;exact E.len (Classical.choose_spec (hch i)).2
  have MA:=ew hlens;have Jr:j<(List.ofFn fun i=>Classical.choose (hch i)).flatten.length:=(List.getElem?_eq_some_iff.1 hj).1;rw [MA,List.length_ofFn] at Jr;have hi:j / E.size<L.length:=(Nat.div_lt_iff_lt_mul h0).2 Jr;have hjj:j=j / E.size * E.size+j % E.size:=by rw [Nat.mul_comm];exact (Nat.div_add_mod j E.size).symm
  have hmod:j % E.size<E.size:=Nat.mod_lt _ h0;have h1:=(Classical.choose_spec (hch ⟨j / E.size,hi⟩)).1 (j % E.size) hmod;have h2:=gm hlens (j / E.size) (j % E.size) (by simpa using hi) hmod;rw [<-hjj,hj] at h2;simp only [List.getD,List.getElem?_ofFn,hi,dif_pos,Option.getD_some] at h2;rw [hjj];exact h1.trans h2.symm
 ·simp only [List.getD,List.getElem?_ofFn,hi,dif_pos,Option.getD_some];exact (Classical.choose_spec (hch ⟨i,hi⟩)).2
theorem mO(k:IntKind):∀ xs:List Int,(xs.map fun x=>[Value.int k x]).flatten=xs.map (Value.int k)
 | []=>rfl
 | x :: xs=>by rw [List.map_cons,List.flatten_cons,mO k xs];rfl
theorem dM{k:IntKind}{Z:an}{w:World}{B n:Nat}{ty:TypeId}{v:Value}{xs:List Int}(h:w.ownsRow B ty 1 v n (xs.map (Value.int k))):OwnE (aF k) Z w B ty v xs:=by
 have hn:xs.length=n:=by have:=h.1;simpa using this
 subst hn;refine ⟨xs.map fun x=>[.int k x],?_,by simp,fun i hi=>?_⟩
 ·rw [mO];exact h
 ·show _=_
  simp [List.getD,List.getElem?_eq_getElem hi,aF]
theorem OwnE.ints{k:IntKind}{Z:an}{w:World}{B:Nat}{ty:TypeId}{v:Value}{xs:List Int}(h:OwnE (aF k) Z w B ty v xs):w.ownsRow B ty 1 v xs.length (xs.map (Value.int k)):=by
 obtain ⟨CS,h1,h2,h3⟩:=h;have e:CS.flatten=xs.map (Value.int k):=by
  apply List.ext_getElem?
  intro i;have Fb:∀ C ∈ CS,C.length=1:=fR h2 h3
  by_cases hi:i<xs.length
  ·have:=gm Fb i 0 (by omega) (by omega);rw [Nat.mul_one,Nat.add_zero] at this;rw [this,show CS.getD i []=[.int k (xs.getD i 0)] from h3 i hi]
   simp [List.getD,List.getElem?_eq_getElem hi]
  ·rw [List.getElem?_eq_none (by rw [ew Fb];omega),List.getElem?_eq_none (by simp;omega)]
 rw [<-e];exact h1
theorem OwnE.lit(w:World)(E:Elem α)(CS:List (List Value))(L:List α)(n:Nat)(hn:L.length=n)(hl:CS.length=n)(hb:B<=w.heap.size)(hm:n<=maxLen)(hr:∀ i,i<n->E.rep Z w (CS.getD i []) (L.getD i E.zero))(C:Array Value)(hC:C=CS.flatten.toArray) :
  OwnE E Z (w.alloc (.cells C ty)) B ty (.slice (some ⟨w.heap.size,0,none⟩) n n) L:=by
 subst hC hn;have Fb:=fR hl hr;refine ⟨CS,?_,hl,fun i hi=>E.keep (Z:=fun b=>Z b/\b<w.heap.size) (.all (AU _ _) _) (fun b hb hz=>⟨hz.1,fun e=>?_⟩) (E.keep (.refl _ _) (fun b hb hz=>⟨hz,hb⟩) (hr i hi))⟩
 ·have:=World.ownsRow_lit (base:=B) (e:=ty) (size:=E.size) w CS.flatten.toArray L.length hb hm (by simp only [List.size_toArray];rw [ew Fb,hl])
  simpa using this
 ·simp only [Value.ownBlock,Option.some.injEq] at e;omega
end
end
section
theorem kM{P:Program}(w:World)(base:Nat)(t ty e:TypeId)(i:TypeInfo)(z:Value)(size bytes:Nat)(ht:P.underlying t=some (.slice e))(hi:P.info? e=some i)(hz:i.zero=some z)
  (hsize:i.size=size) (hby:i.bytes=bytes) (hzs:z.cells.size=size) (hsz:0<size)
  (v:Value) (n:Nat) (xs:List Value) (hown:w.ownsRow base e size v n xs)
  (a:Addr) (m c:Nat) (news:List Value) (hl:news.length=m * size) (hnews:∀ j u,news[j]? = some u->w.cell? (a.add j)=some u) (h1:∀ u ∈ news,u.oneCell'=true)
  (h63:n+m<=maxLen) (hbytes:(n+m) * bytes<=140737488355328) (hbase:base<=w.heap.size) :
  ∃ v' w',(Builtin.append_ #[t,t] ty #[v,.slice (some a) m c]).run P w=.ok v' w'/\w'.ownsRow base e size v' (n+m) (xs++news)/\w.grownBy w' v.ownBlock/\∀ b,b<w.heap.size->v.ownBlock≠some b->v'.ownBlock≠some b:=by
 have hsmall:n+m<=9223372036854775807:=by simp only [maxLen] at h63;omega
 rcases id hown.2 with ⟨rfl,rfl⟩ | ⟨g,cap,cur,rfl,hb,hg,IR,hcm,hcs,NG⟩
 ·have hx:xs=[]:=List.eq_nil_of_length_eq_zero (by simpa using hown.1);subst hx;obtain ⟨v',w',hr,h2,h3,_⟩:=run_append_own (P:=P) w w.heap.size t ty e i z size bytes ht hi hz hsize hby hzs hsz _ 0 [] (World.ownsRow_nil _ _ _ _) a m c news hl hnews h1 h63 hbytes (Nat.le_refl _);refine ⟨v',w',hr,⟨h2.1,?_⟩,h3,fun b hb _ e=>by have:=(h2.lt b e).1;omega⟩
  rcases h2.2 with h | ⟨g,cap,cur,rfl,hg,rest⟩
  ·exact .inl h
  ·exact .inr ⟨g,cap,cur,rfl,by omega,rest⟩
 ·by_cases hroom:n+m<=cap
  ·obtain ⟨w2,hr2,h4,h5⟩:=run_append_fits (P:=P) w base t ty e i size ht hi hsize g n cap xs hown a m c news hl hnews h1 hroom;exact ⟨_,_,hr2,h4,h5,fun b _ hn=>hn⟩
  ·obtain ⟨v',w',hr,h2,h3,_⟩:=run_append_own (P:=P) w base t ty e i z size bytes ht hi hz hsize hby hzs hsz _ n xs hown a m c news hl hnews h1 h63 hbytes hbase;subst hsize;subst hby;have hr2:=run_append_grow (P:=P) w t ty e i z ht hi hz ⟨g,0,none⟩ n cap xs hown.1 (hown.cells (g:=g) rfl) a m c news hl hnews (by omega) (by omega) (growslice_fits (by omega) hbytes);rw [hr2] at hr
   cases hr
   refine ⟨_,_,hr2,h2,h3,fun b hb _ e=>?_⟩
   simp [Value.ownBlock] at e
   omega
section
variable {α : Type} {E : Elem α} {Z Y : an} {w w' : World} {v u : Value} {L M : List α} {B : Nat} {ty : TypeId}
theorem bU{β:Type}(xs ys:List β)(d:β)(i:Nat):(xs++ys).getD i d=if i<xs.length then xs.getD i d else ys.getD (i - xs.length) d:=by
 simp only [List.getD]
 split <;> rename_i h
 ·rw [List.getElem?_append_left h]
 ·rw [List.getElem?_append_right (by omega)]
theorem je{P:Program}(t tt:TypeId)(z:Value)(bytes:Nat)(ht:P.underlying t=some (.slice ty))(CB:(P.info? ty).map (fun i=>(i.zero,i.size,i.bytes))=some (some z,E.size,bytes))(hzs:z.cells.size=E.size)(h0:0<E.size)
  (hv:OwnE E Z w B ty v L) (hu:HeldE E (fun b=>Z b/\v.ownBlock≠some b) w u M) (hn:(L.length+M.length) * bytes<=140737488355328) (Fa:L.length+M.length<=140737488355328) (hB:B<=w.heap.size) :
  ∃ v' w',(Builtin.append_ #[t,t] tt #[v,u]).run P w=.ok v' w'/\OwnE E Z w' B ty v' (L++M)/\Below B w w'/\KeepZ (fun b=>v.ownBlock≠some b) w w'/\∀ b,b<w.heap.size->v.ownBlock≠some b->v'.ownBlock≠some b:=by
 obtain ⟨i0,hi,hz0,hz1,hz2⟩:=info_parts CB;obtain ⟨CS,h1,h2,h3⟩:=id hv;obtain ⟨ao,cap,rfl,hlc,_,EX,hc⟩:=id hu
 cases ao with
 |none =>
  obtain ⟨rfl,rfl⟩:=EX rfl;have hr:=run_append_owned_none (P:=P) w B t tt ty i0 E.size ht hi v L.length CS.flatten h1;exact ⟨v,w,hr,by simpa using hv,Below.refl _ _,.refl _ _,fun _ _ h=>h⟩
 |some ad =>
  obtain ⟨DS,d1,_,d3,d4⟩:=hu.news h0;have Fb:=fR d1 d4;have hls1:=fR h2 h3;obtain ⟨v',w',hr,k1,k2,k3⟩:=kM (P:=P) w B t tt ty i0 z E.size bytes ht hi hz0 hz1 hz2 hzs h0 v L.length CS.flatten h1 ad M.length cap DS.flatten (by rw [ew Fb,d1]) d3 (vW d1 d4) (by unfold maxLen;omega) hn hB;have kz:KeepZ (fun b=>v.ownBlock≠some b) w w':=.grown k2;refine ⟨v',w',hr,⟨CS++DS,?_,by simp [h2,d1],fun i hi=>?_⟩,(Below.refl B w).grown k2 hB fun k hk=>(hv.lt k hk).1,kz,k3⟩
  ·rw [List.flatten_append,List.length_append];exact k1
  ·rw [bU,bU,h2];simp only [List.length_append] at hi
   split
   ·rename_i hlt
    exact E.keep (kz.mono fun b _ hz=>hz.2) (fun b hb hz=>⟨hz.1,k3 b hb hz.2⟩) (h3 i hlt)
   ·rename_i K8
    exact E.keep (kz.mono fun b _ hz=>hz.2) (fun b hb hz=>⟨hz.1,k3 b hb hz.2⟩) (d4 (i - L.length) (by omega))
theorem HeldE.lower(h:HeldE E Z w v L):HeldE E (fun b=>b<w.heap.size) w v L:=h.zone fun b hb _=>hb
theorem HeldE.apart{B:Nat}(h:HeldE E (fun b=>b<B) w u M)(ho:∀ k,v.ownBlock=some k->B<=k/\k<w'.heap.size):HeldE E (fun b=>True/\v.ownBlock≠some b) w u M:=h.zone fun b _ hz=>⟨trivial,fun e=>by have:=(ho b e).1;omega⟩
theorem OwnE.fresh0(w:World)(ty:TypeId){B:Nat}(hB:B<=w.heap.size):OwnE E Z (w.alloc (.cells #[] ty)) B ty (.slice (some ⟨w.heap.size,0,none⟩) 0 0) [] :=
 OwnE.empty ⟨by simp,.inr ⟨w.heap.size,0,#[],rfl,hB,heap_alloc_new w _,Nat.le_refl _,by unfold maxLen;omega,by simp,by simp⟩⟩
theorem aT(C:List Value)(x:α)(hr:E.rep Y w C x)(hy:∀ b,b<w.heap.size->Y b->Z b)(hz:Z w.heap.size):HeldE E Z (w.alloc (.cells C.toArray ty)) (.slice (some ⟨w.heap.size,0,none⟩) 1 1) [x]:=by
 refine ⟨_,1,rfl,Nat.le_refl _,(by decide),(fun h=>by cases h),fun i hi=>?_⟩;have Ll:i=0:=by simpa using hi
 subst Ll;refine ⟨w.heap.size,0,rfl,by simp,hz,C,fun j hj=>?_,?_⟩
 ·rw [cell_of_row (w.alloc (.cells C.toArray ty)) w.heap.size (0+0 * E.size+j) C.toArray ty (0,0) (heap_alloc_new w _)]
  simp
 ·exact E.keep (.all (AU _ _) Y) hy hr
end
section
variable {P : Program} {α : Type} {E : Elem α} {Z Y : an} {w : World} {v u : Value} {L M : List α} {B : Nat} {ty : TypeId}
theorem lw{ρ:Operand->Value}{o:Oper}{s x:Operand}{t:TypeId}{w w':World}{v u v':Value}(ho:o.op=.call { callee:=.builtin .append,args:=#[s,x],argTypes:=#[t,t] })(hs:ρ s=v)(hx:ρ x=u)
  (hr:(Builtin.append_ #[t,t] o.type #[v,u]).run P w=.ok v' w'):(execOp ρ o).run P w=.ok (.value v') w':=by
 unfold execOp;simp only [ho,resolve,invoke,builtin,Sem.run_bind,Sem.run_pure,Result.andThen_ok,List.map_toArray,List.map_cons,List.map_nil,hs,hx,hr]
theorem lx{ops:Array Oper}{rest:List Oper}{o:Oper}{a:Act}{Q:Exit->Act->World->Prop}{w w':World}{v:Value}(hgd:o.guard=none)(he:(execOp a.eval o).run P w=.ok (.value v) w')(h:wpList P ops Q rest (a.put o.dst v) w'):wpList P ops Q (o :: rest) a w:=by
 refine wpList_plain hgd fun K hK=>?_
 unfold Oper.wp;rw [he];exact hK _ _ h
theorem ax{ops:Array Oper}{rest:List Oper}{o:Oper}{a:Act}{Q:Exit->Act->World->Prop}(hgd:o.guard=none)(s x:Operand)(t:TypeId)
  (ho:o.op=.call { callee:=.builtin .append,args:=#[s,x],argTypes:=#[t,t] })
  (z:Value) (bytes:Nat) (ht:P.underlying t=some (.slice ty)) (CB:(P.info? ty).map (fun i=>(i.zero,i.size,i.bytes))=some (some z,E.size,bytes)) (hzs:z.cells.size=E.size) (h0:0<E.size)
  (hs:a.eval s=v) (hx:a.eval x=u) (hv:OwnE E Z w B ty v L) (hu:HeldE E (fun b=>Z b/\v.ownBlock≠some b) w u M) (hn:(L.length+M.length) * bytes<=140737488355328) (Fa:L.length+M.length<=140737488355328) (hB:B<=w.heap.size)
  (h:∀ v' w',OwnE E Z w' B ty v' (L++M)->Below B w w'->KeepZ (fun b=>v.ownBlock≠some b) w w'->(∀ b,b<w.heap.size->v.ownBlock≠some b->v'.ownBlock≠some b)->wpList P ops Q rest (a.put o.dst v') w') :
  wpList P ops Q (o :: rest) a w:=by
 obtain ⟨v',w',hr,h1,h2,h3,h4⟩:=je (P:=P) t o.type z bytes ht CB hzs h0 hv hu hn Fa hB;refine lx hgd ?_ (h v' w' h1 h2 h3 h4);exact lw ho hs hx hr
end
end
theorem iE{P:Program}(w:World){ops:Array Oper}{rest:List Oper}{o:Oper}{a:Act}{Q:Exit->Act->World->Prop}(hgd:o.guard=none)(s x:Operand)(t:TypeId)
  (ho:o.op=.call { callee:=.builtin .append,args:=#[s,x],argTypes:=#[t,t] })
  (base:Nat) (e:TypeId) (z:Value) (bytes:Nat) (ht:P.underlying t=some (.slice e)) (CB:(P.info? e).map (fun i=>(i.zero,i.size,i.bytes))=some (some z,1,bytes)) (hzs:z.cells.size=1)
  (k:IntKind) (v:Value) (n:Nat) (xs:List Int) (hs:a.eval s=v) (hown:w.ownsRow base e 1 v n (xs.map (Value.int k)))
  (u:Value) (ys:List Int) (hx:a.eval x=u) (hu:Held k w u ys)
  (hbytes:(n+ys.length) * bytes<=140737488355328) (hb0:n+ys.length<=140737488355328) (hbase:base<=w.heap.size)
  (h:∀ v' w',w'.ownsRow base e 1 v' (n+ys.length) ((xs++ys).map (Value.int k))->Below base w w'->(∀ g,g<w.heap.size->v.ownBlock≠some g->w'.heap[g]? = w.heap[g]?)->wpList P ops Q rest (a.put o.dst v') w') :
  wpList P ops Q (o :: rest) a w:=by
 obtain ⟨i0,hi,hz0,hz1,hz2⟩:=info_parts CB;obtain ⟨ao,cap,rfl,hn,hc⟩:=hu
 cases ao with
 |none =>
  obtain ⟨rfl,rfl⟩:=hn rfl;exact wpList_append_own_none hgd s x t ho base e i0 1 ht hi v n _ hs hown hx (h v w (by simpa using hown) (Below.refl _ _) fun _ _ _=>rfl)
 |some ad =>
  refine wpList_append_own _ hgd s x t ho base e i0 z 1 bytes ht hi hz0 hz1 hz2 hzs (by decide) v n _ hs hown ad ys.length cap (ys.map (Value.int k)) hx (by simp) ?_ (ints_oneCell k ys) (by unfold maxLen;omega) hbytes hbase ?_
  ·intro j y hj;have Jr:j<ys.length:=by
    rcases Nat.lt_or_ge j ys.length with h | h
    ·exact h
    ·simp [List.getElem?_eq_none (show (ys.map (Value.int k)).length<=j by simpa using h)] at hj
   obtain ⟨b,off,e1,_,h1⟩:=hc j Jr
   cases e1
   rw [Addr.add_lit,h1]
   simp [List.getElem?_eq_getElem Jr] at hj
   subst hj
   simp [List.getD,List.getElem?_eq_getElem Jr]
  ·intro v' w' hown' hgrow _;exact h v' w' (by simpa using hown') ((Below.refl base w).grown hgrow hbase fun j hj=>(hown.lt j hj).1) fun g hg hne=>hgrow.block g hg (fun e=>hne e.symm)
theorem Held.kept{k:IntKind}{w w':World}{v:Value}{xs:List Int}(h:Held k w v xs)(hs:w.heap.size<=w'.heap.size)(hk:∀ a n c,v=.slice (some a) n c->a.block<w.heap.size->w'.heap[a.block]? = w.heap[a.block]?):Held k w' v xs:=by
 obtain ⟨ao,cap,rfl,hn,hc⟩:=h;refine ⟨ao,cap,rfl,hn,fun i hi=>?_⟩;obtain ⟨b,off,rfl,hlt,hcell⟩:=hc i hi;refine ⟨b,off,rfl,by omega,?_⟩;rw [<-hcell];exact World.cell?_of_block (a:=⟨b,off+i,none⟩) (hk ⟨b,off,none⟩ _ _ rfl hlt)
theorem Held.outlive{k:IntKind}{w w':World}{v u:Value}{xs:List Int}{B:Nat}(h:Held k w v xs)(hs:w.heap.size<=w'.heap.size)(hf:Fresh B v)(hu:∀ g,u.ownBlock=some g->g<B)
  (hk:∀ g,g<w.heap.size->u.ownBlock≠some g->w'.heap[g]? = w.heap[g]?):Held k w' v xs :=
 h.kept hs fun a n c e hlt=>hk _ hlt fun e2=>by have:=hu _ e2;have:=hf a n c e;omega
theorem kZ:(Tryz.prog.info? 21).map (fun i=>(i.zero,i.size,i.bytes))=some (some (.int .i32 0),1,4):=by kernel_rfl
theorem ue(w:World)(B:Nat)(ty:TypeId)(g:Nat)(hown:w.ownsRow B 21 1 (.slice (some ⟨g,0,none⟩) 0 0) 0 [])(u:Value)(T:List Int)(hu:Held .i32 w u T)(Dt:0<T.length)(hn:T.length<=1000000)(hbase:B<=w.heap.size) :
  ∃ v' w',(Builtin.append_ #[27,27] ty #[.slice (some ⟨g,0,none⟩) 0 0,u]).run Tryz.prog w=.ok v' w'/\w'.ownsRow B 21 1 v' T.length (T.map (Value.int .i32))/\Below w.heap.size w w':=by
 obtain ⟨i0,hi,hz0,hz1,hz2⟩:=info_parts kZ;obtain ⟨ao,cap,rfl,hcells⟩:=hu.view;obtain ⟨b,off,rfl,_,_⟩:=hcells 0 Dt;have hnews:∀ j v,(T.map (Value.int .i32))[j]? = some v->w.cell? ((⟨b,off,none⟩ : Addr).add j)=some v:=by
  intro j v hj;rw [List.getElem?_map] at hj
  cases hT:T[j]? with
  |none=>rw [hT] at hj;cases hj
  |some y =>
   rw [hT] at hj;have hj:v=.int .i32 y:=by simpa using hj.symm
   subst hj;have Jr:j<T.length:=(List.getElem?_eq_some_iff.1 hT).1;obtain ⟨b',off',e,_,hc⟩:=hcells j Jr
   cases e
   have:T.getD j 0=y:=by simp [List.getD,hT]
   rw [this] at hc
   rcases Nat.eq_zero_or_pos j with rfl | hp
   ·simpa [Addr.add] using hc
   ·simpa [Addr.add,Nat.ne_of_gt hp] using hc
 obtain ⟨v',w',hr,h2,h3,_,h5⟩:=eI (P:=Tryz.prog) w B 27 ty 21 i0 _ 1 4 Tryz.underlying27 hi hz0 hz1 hz2 rfl (by decide) _ 0 [] hown ⟨b,off,none⟩ T.length cap (T.map (Value.int .i32)) (by simp) hnews (by intro v hv;simp at hv;obtain ⟨_,_,rfl⟩:=hv;rfl) (by unfold maxLen;omega) (by omega) hbase;refine ⟨v',w',hr,by simpa using h2,?_⟩
 rcases h5 with h5 | ⟨g2,cap2,e1,rfl⟩
 ·exact (Below.refl _ w).grown (⟨h3.os,h3.tape,h3.output,h3.size,fun i hi _=>h5 i hi⟩ : w.grownBy w' none) (Nat.le_refl _) (by simp)
 ·exfalso;simp only [Value.slice.injEq,Option.some.injEq,Addr.mk.injEq,and_true,true_and] at e1;obtain ⟨rfl,rfl⟩:=e1
  rcases h2.2 with ⟨h',_⟩ | ⟨g3,cap3,cur3,h',_,_,hn3,_⟩
  ·simp at h'
  ·simp only [Value.slice.injEq,Option.some.injEq,Addr.mk.injEq,and_true,true_and] at h';omega
def aw(b:Int):Int:=if b<=127 then 1 else if b<194 then 0 else if b<=223 then 2 else if b<=239 then 3 else if b<=244 then 4 else 0
theorem bq(b:Int):(b<=127/\aw b=1)\/(127<b/\b<194/\aw b=0)\/(194<=b/\b<=223/\aw b=2)\/(224<=b/\b<=239/\aw b=3)\/(240<=b/\b<=244/\aw b=4)\/(244<b/\aw b=0):=by
 unfold aw;omega
theorem dr(b:Int)(w:World)(h0:0<=b)(h1:b<=255):Calls Tryz.prog 206 #[.int .u8 b] w fun e w'=>e=.returned (.int .i64 (aw b))/\w=w':=by
 rcases bq b with ⟨h2,hs⟩ | ⟨h2,h3,hs⟩ | ⟨h2,h3,hs⟩ | ⟨h2,h3,hs⟩ | ⟨h2,h3,hs⟩ | ⟨h2,hs⟩
 all_goals
  rw [hs];clear hs
  go_enter Tryz.func206,Tryz.ntmps206
  go_wp2;go_ret;exact ⟨rfl,rfl⟩
def fI(b:Int):Bool:=decide (128<=b) && decide (b<=191)
theorem tailB_true{b:Int}:fI b=true↔128<=b/\b<=191:=by unfold fI;simp
theorem yk(b:Int)(w:World)(h0:0<=b)(h1:b<=255):Calls Tryz.prog 250 #[.int .u8 b] w fun e w'=>e=.returned (.bool (fI b))/\w=w':=by
 have hv:(b<128/\fI b=false)\/(128<=b/\b<=191/\fI b=true)\/(191<b/\fI b=false):=by unfold fI;simp;omega
 rcases hv with ⟨h2,hs⟩ | ⟨h2,h3,hs⟩ | ⟨h2,hs⟩
 all_goals
  rw [hs];clear hs
  go_enter Tryz.func250,Tryz.ntmps250
  go_wp2;go_ret;exact ⟨al (by first | rfl | (simp;omega)),rfl⟩
def bY(b:Int):Int:=if aw b=1 then b else if aw b=2 then b % 32 else if aw b=3 then b % 16 else if aw b=4 then b % 8 else 0
theorem mg(b:Int)(w:World)(h0:0<=b)(h1:b<=255):Calls Tryz.prog 252 #[.int .u8 b] w fun e w'=>e=.returned (.int .i64 (bY b))/\w=w':=by
 rcases bq b with ⟨h2,hs⟩ | ⟨h2,h3,hs⟩ | ⟨h2,h3,hs⟩ | ⟨h2,h3,hs⟩ | ⟨h2,h3,hs⟩ | ⟨h2,hs⟩
 all_goals
  have hb:bY b=bY b:=rfl
  conv at hb=>rhs;unfold bY;rw [hs]
  simp at hb
  rw [hb];clear hb;have HS:=ab hs;clear hs
  go_enter Tryz.func252,Tryz.ntmps252
  go_wp2_with fail
  refine (dr b _ h0 h1).mono ?_;rintro e w' ⟨rfl,rfl⟩;rw [HS.out];go_wp2;go_ret;exact ⟨rfl,rfl⟩
def lo2(b:Int):Int:=if aw b<2 then 0 else if b=224 then 160 else if b=240 then 144 else 128
def hi2(b:Int):Int:=if aw b<2 then 0 else if b=244 then 143 else if b=237 then 159 else 191
theorem sc(b:Int)(w:World)(h0:0<=b)(h1:b<=255)(hl:2<=aw b):Calls Tryz.prog 286 #[.int .u8 b] w fun e w'=>e=.returned (.int .u8 (lo2 b))/\w=w':=by
 have hv:(b=224/\lo2 b=160)\/(b=240/\lo2 b=144)\/(b≠224/\b≠240/\lo2 b=128):=by unfold lo2;omega
 clear hl
 rcases hv with ⟨rfl,hs⟩ | ⟨rfl,hs⟩ | ⟨h2,h3,hs⟩
 all_goals
  rw [hs];clear hs
  go_enter Tryz.func286,Tryz.ntmps286
  go_wp2;go_ret;exact ⟨rfl,rfl⟩
theorem qx(b:Int)(w:World)(h0:0<=b)(h1:b<=255)(hl:2<=aw b):Calls Tryz.prog 287 #[.int .u8 b] w fun e w'=>e=.returned (.int .u8 (hi2 b))/\w=w':=by
 have hv:(b=244/\hi2 b=143)\/(b=237/\hi2 b=159)\/(b≠244/\b≠237/\hi2 b=191):=by unfold hi2;omega
 clear hl
 rcases hv with ⟨rfl,hs⟩ | ⟨rfl,hs⟩ | ⟨h2,h3,hs⟩
 all_goals
  rw [hs];clear hs
  go_enter Tryz.func287,Tryz.ntmps287
  go_wp2;go_ret;exact ⟨rfl,rfl⟩
theorem mh(b:Int)(w:World)(h0:0<=b)(h1:b<=255):Calls Tryz.prog 251 #[.int .u8 b] w fun e w'=>e=.returned (.tuple #[.int .u8 (lo2 b),.int .u8 (hi2 b)])/\w=w':=by
 by_cases hl:2<=aw b
 ·have H:=ab hl
  go_enter Tryz.func251,Tryz.ntmps251
  go_wp2_with fail
  refine (dr b _ h0 h1).mono ?_;rintro e w' ⟨rfl,rfl⟩
  go_wp2_with fail
  refine (sc b _ h0 h1 H.out).mono ?_;rintro e w' ⟨rfl,rfl⟩
  go_wp2_with fail
  refine (qx b _ h0 h1 H.out).mono ?_;rintro e w' ⟨rfl,rfl⟩;go_wp2
  go_ret2
  exact ⟨rfl,rfl⟩
 ·have e1:lo2 b=0:=by unfold lo2;omega
  have e2:hi2 b=0:=by unfold hi2;omega
  rw [e1,e2];clear e1 e2
  go_enter Tryz.func251,Tryz.ntmps251
  go_wp2_with fail
  refine (dr b _ h0 h1).mono ?_;rintro e w' ⟨rfl,rfl⟩;go_wp2
  go_ret2
  exact ⟨rfl,rfl⟩
def mkN:Nat->Int | 2=>192 | 3=>224 | 4=>240 | _=>0
def szN:Nat->Int | 1=>128 | 2=>32 | 3=>16 | 4=>8 | _=>0
def frN:Nat->Int | 2=>128 | 3=>2048 | 4=>65536 | _=>0
def toN:Nat->Int | 1=>127 | 2=>2047 | 3=>65535 | 4=>1114111 | _=>0
def mxI(a b:Int):Int:=if a<=b then b else a
def mnI(a b:Int):Int:=if a<=b then a else b
def loF(b:List Int)(v:Int):Nat->Int
 | 0=>v
 | s+1=>loF b v s * 64+(if s+1<b.length then b.getD (s+1) 0 - 128 else 0)
def hiF(b:List Int)(v:Int):Nat->Int
 | 0=>v
 | s+1=>hiF b v s * 64+63+(if s+1<b.length then b.getD (s+1) 0 - 128 - 63 else 0)
def okF(b:List Int):Nat->Prop
 | 0=>True
 | s+1=>okF b s/\(s+1<b.length->0<=b.getD (s+1) 0 - 128/\b.getD (s+1) 0 - 128<=63)
def vF(b:List Int)(n:Nat):Int:=b.getD 0 0 - mkN n
def bf(b:List Int)(n:Nat):Prop :=
 0<=vF b n/\vF b n<szN n/\okF b (n - 1)/\mxI (loF b (vF b n) (n - 1)) (frN n)<=mnI (hiF b (vF b n) (n - 1)) (toN n) /\
  (mxI (loF b (vF b n) (n - 1)) (frN n)<55296\/57343<mnI (hiF b (vF b n) (n - 1)) (toN n))
instance okDec (b:List Int):∀ s,Decidable (okF b s)
 |0=>isTrue trivial
 |s+1=>by
  have:=okDec b s;unfold okF;exact inferInstance
instance (b:List Int) (n:Nat):Decidable (bf b n):=by unfold bf;exact inferInstance
theorem yy(b:List Int)(v:Int)(hv0:0<=v)(Nw:v<128):∀ s,okF b s->0<=loF b v s/\loF b v s<=hiF b v s/\hiF b v s<128 * 64 ^ s
 |0,_=>by simp only [loF,hiF];omega
 |s+1,h=>by
  obtain ⟨h1,h2⟩:=h;obtain ⟨i1,i2,i3⟩:=yy b v hv0 Nw s h1;simp only [loF,hiF];have e:(128:Int) * 64 ^ (s+1)=(128 * 64 ^ s) * 64:=by rw [Int.pow_succ];omega
  rw [e];generalize (128:Int) * 64 ^ s=m at *
  by_cases hl:s+1<b.length
  ·have:=h2 hl;simp only [hl,if_true];omega
  ·simp only [hl,if_false];omega
def eH(b:List Int):Int :=
 if b.length<=1/\bf b 1 then 1 else if b.length<=2/\bf b 2 then 2 else if b.length<=3/\bf b 3 then 3 else if b.length<=4/\bf b 4 then 4 else 0
theorem p11(x:Int)(x0:0<=x):bf [x] 1↔x<=127:=by
 simp [bf,vF,mkN,szN,frN,toN,okF,loF,hiF,mxI,mnI];omega
theorem p12(x:Int):bf [x] 2↔194<=x/\x<=223:=by
 simp [bf,vF,mkN,szN,frN,toN,okF,loF,hiF,mxI,mnI];omega
theorem p13(x:Int):bf [x] 3↔224<=x/\x<=239:=by
 simp [bf,vF,mkN,szN,frN,toN,okF,loF,hiF,mxI,mnI];omega
theorem p14(x:Int):bf [x] 4↔240<=x/\x<=244:=by
 simp [bf,vF,mkN,szN,frN,toN,okF,loF,hiF,mxI,mnI];omega
theorem p22(x y:Int):bf [x,y] 2↔194<=x/\x<=223/\128<=y/\y<=191:=by
 simp [bf,vF,mkN,szN,frN,toN,okF,loF,hiF,mxI,mnI];omega
theorem p23(x y:Int):bf [x,y] 3↔224<=x/\x<=239/\128<=y/\y<=191/\(x=224->160<=y)/\(x=237->y<=159):=by
 simp [bf,vF,mkN,szN,frN,toN,okF,loF,hiF,mxI,mnI];omega
theorem p24(x y:Int):bf [x,y] 4↔240<=x/\x<=244/\128<=y/\y<=191/\(x=240->144<=y)/\(x=244->y<=143):=by
 simp [bf,vF,mkN,szN,frN,toN,okF,loF,hiF,mxI,mnI];omega
theorem p33(x y z:Int):bf [x,y,z] 3↔224<=x/\x<=239/\128<=y/\y<=191/\(x=224->160<=y)/\(x=237->y<=159)/\128<=z/\z<=191:=by
 simp [bf,vF,mkN,szN,frN,toN,okF,loF,hiF,mxI,mnI];omega
theorem p34(x y z:Int):bf [x,y,z] 4↔240<=x/\x<=244/\128<=y/\y<=191/\(x=240->144<=y)/\(x=244->y<=143)/\128<=z/\z<=191:=by
 simp [bf,vF,mkN,szN,frN,toN,okF,loF,hiF,mxI,mnI];omega
theorem p44(x y z u:Int):bf [x,y,z,u] 4↔240<=x/\x<=244/\128<=y/\y<=191/\(x=240->144<=y)/\(x=244->y<=143)/\128<=z/\z<=191/\128<=u/\u<=191:=by
 simp [bf,vF,mkN,szN,frN,toN,okF,loF,hiF,mxI,mnI];omega
section
open Go.Deep
def kE(P:Program){α:Type}(E:Elem α)(ok:α->Prop)(t:TypeId):Prop :=
 P.cellsOf t=E.size/\∀ {H:Type} (enc:TypeId × Value->H) (W:World) (base fuel:Nat) (cs:List Value) (x:DataW H × List MemPlace),DataW.trod enc P W base (fun _=>true) true fuel t cs=some x->∃ y,E.rep (fun b=>b<W.heap.size) W cs y/\ok y
section
variable {P : Program} {α β γ : Type} {E : Elem α} {F : Elem β} {G : Elem γ} {ok : α → Prop} {ok' : β → Prop} {ok'' : γ → Prop} {t e : TypeId}
theorem iq{k:IntKind}(hu:P.underlying t=some (.int k))(hc:P.cellsOf t=1):kE P (aF k) (fun n=>(Lit.int k n).wf=true) t:=by
 refine ⟨hc,fun enc W base fuel cs x h=>?_⟩;obtain ⟨n,rfl,_,hw⟩:=DataW.trod_int hu h;exact ⟨n,rfl,hw⟩
theorem pP(hu:P.underlying t=some (.slice e))(hc:P.cellsOf t=1)(h0:0<E.size)(he:kE P E ok e):kE P (slE E) (fun L=>∀ x ∈ L,ok x) t:=by
 refine ⟨hc,fun {H} enc W base fuel cs x h=>?_⟩;obtain ⟨hce,hop⟩:=he
 rcases open_slice hu h with ⟨rfl,_⟩ | ⟨a,len,cap,m,n,D,Pl,rfl,_,hl,hm,hmm,_,hx⟩
 ·exact ⟨[],⟨_,rfl,HeldE.nil _ _ _⟩,by simp⟩
 ·simp at hmm
  rw [hce] at hx;have hsp:0<len->a.spot=none:=by
   intro hl0;obtain ⟨cs',h1,_⟩:=hx 0 (by omega);obtain ⟨_,hlen,hcell⟩:=World.cells?_some h1;have hk:=hcell 0 h0;rw [List.getElem?_eq_getElem (by omega)] at hk;have:=World.cell?_spot hk
   simpa [Addr.add] using this
  have each:∀ i,i<len->∃ y:α,ok y/\∃ b off,a=⟨b,off,none⟩/\b<W.heap.size/\∃ C,(∀ j,j<E.size->W.cell? ⟨b,off+i * E.size+j,none⟩=C[j]?)/\E.rep (fun b=>b<W.heap.size) W C y:=by
   intro i hi;obtain ⟨cs',h1,h2⟩:=hx i (by omega);obtain ⟨_,hlen,hcell⟩:=World.cells?_some h1;obtain ⟨y,hr,hy⟩:=hop enc W base _ cs' _ h2;have hk:=hcell 0 h0;have hv:∃ v0,cs'[0]? = some v0:=⟨cs'[0],List.getElem?_eq_getElem (by omega)⟩;obtain ⟨v0,hv0⟩:=hv;rw [hv0] at hk;have hs:a.spot=none:=hsp (by omega);obtain ⟨b,off,sp⟩:=a;simp only at hs;subst hs;rw [Addr.add_lit,Addr.add_lit] at hk;refine ⟨y,hy,b,off,rfl,World.block_lt_of_cell? W ⟨b,off+i * E.size+0,none⟩ hk,cs',fun j hj=>?_,hr⟩;have:=hcell j hj;rw [Addr.add_lit,Addr.add_lit] at this;exact this
  have hg:∀ i (hi:i<len),(List.ofFn (n:=len) fun i=>Classical.choose (each i.val i.isLt)).getD i E.zero=Classical.choose (each i hi):=fun i hi=>by simp [List.getD,hi]
  refine ⟨List.ofFn (n:=len) fun i=>Classical.choose (each i.val i.isLt),⟨_,rfl,some a,cap,by simp,by simp;omega,hm,(fun h=>by cases h),fun i hi=>?_⟩,?_⟩
  ·have hi':i<len:=by simpa using hi
   obtain ⟨_,b,off,rfl,h1,C,h2,h3⟩:=Classical.choose_spec (each i hi');refine ⟨b,off,rfl,h1,h1,C,h2,?_⟩;rw [hg i hi'];exact h3
  ·intro y hy;obtain ⟨i,rfl⟩:=List.mem_ofFn.1 hy;exact (Classical.choose_spec (each i.val i.isLt)).1
theorem rE{f0 f1:Field}(hu:P.underlying t=some (.struct #[f0,f1]))(hc:P.cellsOf t=E.size+F.size)(h0:f0.offset=0)(h1:f1.offset=E.size)(he:kE P E ok f0.type)(hf:kE P F ok' f1.type):kE P (prE E F) (fun x=>ok x.1/\ok' x.2) t:=by
 refine ⟨hc,fun {H} enc W base fuel cs x h=>?_⟩;obtain ⟨y0,y1,n,_,hl,t0,t1⟩:=trod_struct2 hu h;rw [he.1,h0] at t0;rw [hf.1,h1] at t1;obtain ⟨x0,r0,k0⟩:=he.2 enc W base _ _ _ t0;obtain ⟨x1,r1,k1⟩:=hf.2 enc W base _ _ _ t1;refine ⟨(x0,x1),⟨_,_,?_,r0,r1⟩,k0,k1⟩;rw [hc] at hl;simp only [List.drop_zero];rw [List.take_of_length_le (l:=List.drop E.size cs) (by simp;omega),List.take_append_drop]
theorem mX(hu:P.underlying t=some (.slice e))(hc:P.cellsOf t=1)(h0:0<E.size)(he:kE P E ok e){H:Type}{enc:TypeId × Value->H}{W:World}{base:Nat}{v:Value}{d:DataW H}{p:List MemPlace}(hv:Value.okWide P W .any base t v)(h:DataW.Trod enc P W 0 (fun _=>true) true t v d p) :
  ∃ L,HeldE E (fun b=>b<W.heap.size) W v L/\∀ x ∈ L,ok x:=by
 obtain ⟨a0,len,cap,rfl⟩:=okWide_slice hu hv;obtain ⟨fuel,hf⟩:=h;obtain ⟨y,⟨v',hv',hr⟩,hk⟩:=(pP hu hc h0 he).2 enc W 0 _ _ _ hf
 simp [Value.cells] at hv'
 subst hv';exact ⟨y,hr,hk⟩
theorem oM{fs:Array Field}(hu:P.underlying t=some (.struct fs))(he:kE P E ok t){H:Type}{enc:TypeId × Value->H}{W:World}{base:Nat}{v:Value}{d:DataW H}{p:List MemPlace}(hv:Value.okWide P W .any base t v)(h:DataW.Trod enc P W 0 (fun _=>true) true t v d p) :
  ∃ cs y,v=.agg cs/\E.rep (fun b=>b<W.heap.size) W cs.toList y/\ok y:=by
 obtain ⟨cs,rfl,_⟩:=okWide_struct hu hv;obtain ⟨fuel,hf⟩:=h;obtain ⟨y,hr,hk⟩:=he.2 enc W 0 _ _ _ hf;exact ⟨cs,y,rfl,by simpa [Value.cells] using hr,hk⟩
end
end
def clI(n:Int):Int:=if n<0\/13<n then 0 else n
theorem wM(n:Int):0<=clI n/\clI n<=13:=by unfold clI;omega
theorem bM(n:Int)(w:World):Calls Tryz.prog 283 #[.int .i64 n] w fun e w'=>e=.returned (.int .i64 (clI n))/\w=w':=by
 have hv:(n<0/\clI n=0)\/(0<=n/\n<=13/\clI n=n)\/(13<n/\clI n=0):=by unfold clI;omega
 rcases hv with ⟨h2,hs⟩ | ⟨h2,h3,hs⟩ | ⟨h2,hs⟩
 all_goals
  rw [hs];clear hs
  go_enter Tryz.func283,Tryz.ntmps283
  go_wp2;go_ret;exact ⟨af,rfl⟩
def brB(n:Int):Bool:=decide (1<=n) && decide (n<=3)
theorem tR(n:Int):(n=1/\brB n=true)\/(n=2/\brB n=true)\/(n=3/\brB n=true)\/(n≠1/\n≠2/\n≠3/\brB n=false):=by unfold brB;simp;omega
theorem dp(n:Int)(w:World):Calls Tryz.prog 284 #[.int .i64 n] w fun e w'=>e=.returned (.bool (brB n))/\w=w':=by
 rcases tR n with ⟨rfl,hs⟩ | ⟨rfl,hs⟩ | ⟨rfl,hs⟩ | ⟨h1,h2,h3,hs⟩
 all_goals
  rw [hs];clear hs
  go_enter Tryz.func284,Tryz.ntmps284
  go_wp2;go_ret;exact ⟨af,rfl⟩
def gW(a b:Int):Bool :=
 if a=9 then decide (b=9\/b=10\/b=12\/b=13)
 else if a=12\/a=10 then decide (b=10\/b=11)
 else if a=13\/a=11 then decide (b=11) else false
theorem rs(a b:Int):(a=9/\b=9/\gW a b=true)\/(a=9/\b=10/\gW a b=true)\/(a=9/\b=12/\gW a b=true)\/(a=9/\b=13/\gW a b=true)\/(a=9/\b≠9/\b≠10/\b≠12/\b≠13/\gW a b=false)
  \/ ((a=12\/a=10)/\b=10/\gW a b=true)\/((a=12\/a=10)/\b=11/\gW a b=true)\/((a=12\/a=10)/\b≠10/\b≠11/\gW a b=false)
  \/ ((a=13\/a=11)/\b=11/\gW a b=true)\/((a=13\/a=11)/\b≠11/\gW a b=false)
  \/ (a≠9/\a≠10/\a≠11/\a≠12/\a≠13/\gW a b=false):=by
 unfold gW
 by_cases h9:a=9
 ·subst h9;simp;omega
 ·by_cases GX:a=12\/a=10
  ·simp [h9,GX];omega
  ·by_cases EW:a=13\/a=11
   ·simp [h9,GX,EW];omega
   ·simp [h9,GX,EW];omega
theorem sz(a b:Int)(w:World):Calls Tryz.prog 285 #[.int .i64 a,.int .i64 b] w fun e w'=>e=.returned (.bool (gW a b))/\w=w':=by
 rcases rs a b with ⟨rfl,rfl,hs⟩ | ⟨rfl,rfl,hs⟩ | ⟨rfl,rfl,hs⟩ | ⟨rfl,rfl,hs⟩ | ⟨rfl,h1,h2,h3,h4,hs⟩ | ⟨rfl | rfl,rfl,hs⟩ | ⟨rfl | rfl,rfl,hs⟩ | ⟨rfl | rfl,h1,h2,hs⟩ | ⟨rfl | rfl,rfl,hs⟩ | ⟨rfl | rfl,h1,hs⟩ | ⟨h1,h2,h3,h4,h5,hs⟩
 all_goals
  rw [hs];clear hs
  go_enter Tryz.func285,Tryz.ntmps285
  go_wp2;go_ret;exact ⟨af,rfl⟩
def cH(a b:Int):Int :=
 if a=1/\b=2 then 1 else if brB a=true\/brB b=true then 0 else if gW a b=true then 1
 else if b=4\/b=5\/b=8\/a=7 then 1 else if (b=0/\(a=5\/a=4))\/(a=6/\b=6) then 2 else 0
def cq(a b:Int):Int:=cH (clI a) (clI b)
theorem pH(a b:Int):(a=1/\b=2/\cH a b=1)\/(¬ (a=1/\b=2)/\brB a=true/\cH a b=0)\/(a≠1/\brB a=false/\brB b=true/\cH a b=0)
  \/ (a≠1/\brB a=false/\brB b=false/\gW a b=true/\cH a b=1)\/(a≠1/\brB a=false/\brB b=false/\gW a b=false/\cH a b=(if b=4\/b=5\/b=8\/a=7 then 1 else if (b=0/\(a=5\/a=4))\/(a=6/\b=6) then 2 else 0)):=by
 unfold cH
 by_cases h:a=1/\b=2
 ·simp [h]
 ·have h1:brB a=false->a≠1:=by intro hb he;subst he;simp [brB] at hb
  rw [if_neg h]
  cases ha:brB a with
  |true=>simp [h]
  |false =>
   have h1:=h1 ha
   cases hb:brB b with
   |true=>simp [h1]
   |false =>
    cases hs:gW a b with
    | true=>simp [h1]
    | false=>simp [h1]
theorem wL(a b:Int)(w:World):Calls Tryz.prog 249 #[.int .i64 a,.int .i64 b] w fun e w'=>e=.returned (.int .i64 (cq a b))/\w=w':=by
 have ka:=wM a;have kb:=wM b;have hj:cq a b=cH (clI a) (clI b):=rfl;rw [hj];clear hj;obtain ⟨x,hx⟩:=ae (clI a);obtain ⟨y,hy⟩:=ae (clI b);rw [<-hx,<-hy];rw [<-hx] at ka;rw [<-hy] at kb;have HX:=ab hx;have HY:=ab hy;clear hx hy
 rcases pH x y with ⟨h1,h2,hs⟩ | ⟨h1,h2,hs⟩ | ⟨h1,h2,h3,hs⟩ | ⟨h1,h2,h3,h4,hs⟩ | ⟨h1,h2,h3,h4,hs⟩
 ·subst h1;subst h2;rw [hs]
  go_enter Tryz.func249,Tryz.ntmps249
  go_wp2_with fail
  refine (bM a _).mono ?_;rintro e w' ⟨rfl,rfl⟩;rw [<-HX.out]
  go_wp2_with fail
  refine (bM b _).mono ?_;rintro e w' ⟨rfl,rfl⟩;rw [<-HY.out];go_wp2;go_ret;exact ⟨af,rfl⟩
 ·rw [hs];have hq:((x == 1) && (y == 2))=false:=by simp;omega
  have H2:=ab h2;clear h2 hs
  by_cases e1:x=1
  ·have e2:y≠2:=by omega
   subst e1
   go_enter Tryz.func249,Tryz.ntmps249
   go_wp2_with fail
   refine (bM a _).mono ?_;rintro e w' ⟨rfl,rfl⟩;rw [<-HX.out]
   go_wp2_with fail
   refine (bM b _).mono ?_;rintro e w' ⟨rfl,rfl⟩;rw [<-HY.out]
   go_wp2_with fail
   refine (dp _ _).mono ?_;rintro e w' ⟨rfl,rfl⟩;rw [H2.out];go_wp2;go_ret;exact ⟨af,rfl⟩
  ·clear hq;have e2:(x == 1)=false:=by simp;omega
   clear e1 h1
   go_enter Tryz.func249,Tryz.ntmps249
   go_wp2_with fail
   refine (bM a _).mono ?_;rintro e w' ⟨rfl,rfl⟩;rw [<-HX.out]
   go_wp2_with fail
   refine (bM b _).mono ?_;rintro e w' ⟨rfl,rfl⟩;rw [<-HY.out]
   go_wp2_with fail
   refine (dp _ _).mono ?_;rintro e w' ⟨rfl,rfl⟩;rw [H2.out];go_wp2;go_ret;exact ⟨af,rfl⟩
 ·rw [hs];have H2:=ab h2;have H3:=ab h3;clear h2 h3 hs;have e2:(x == 1)=false:=by simp;omega
  clear h1
  go_enter Tryz.func249,Tryz.ntmps249
  go_wp2_with fail
  refine (bM a _).mono ?_;rintro e w' ⟨rfl,rfl⟩;rw [<-HX.out]
  go_wp2_with fail
  refine (bM b _).mono ?_;rintro e w' ⟨rfl,rfl⟩;rw [<-HY.out]
  go_wp2_with fail
  refine (dp _ _).mono ?_;rintro e w' ⟨rfl,rfl⟩;rw [H2.out]
  go_wp2_with fail
  refine (dp _ _).mono ?_;rintro e w' ⟨rfl,rfl⟩;rw [H3.out];go_wp2;go_ret;exact ⟨af,rfl⟩
 ·rw [hs];have H2:=ab h2;have H3:=ab h3;have H4:=ab h4;clear h2 h3 h4 hs;have e2:(x == 1)=false:=by simp;omega
  clear h1
  go_enter Tryz.func249,Tryz.ntmps249
  go_wp2_with fail
  refine (bM a _).mono ?_;rintro e w' ⟨rfl,rfl⟩;rw [<-HX.out]
  go_wp2_with fail
  refine (bM b _).mono ?_;rintro e w' ⟨rfl,rfl⟩;rw [<-HY.out]
  go_wp2_with fail
  refine (dp _ _).mono ?_;rintro e w' ⟨rfl,rfl⟩;rw [H2.out]
  go_wp2_with fail
  refine (dp _ _).mono ?_;rintro e w' ⟨rfl,rfl⟩;rw [H3.out]
  go_wp2_with fail
  refine (sz _ _ _).mono ?_;rintro e w' ⟨rfl,rfl⟩;rw [H4.out];go_wp2;go_ret;exact ⟨af,rfl⟩
 ·have H2:=ab h2;have H3:=ab h3;have H4:=ab h4;have HS:=ab hs;clear h2 h3 h4 hs;have hc:(y=4/\cH x y=1)\/(y=5/\cH x y=1)\/(y=8/\cH x y=1)\/(x=7/\y≠4/\y≠5/\y≠8/\cH x y=1)\/(y=0/\x=5/\cH x y=2)\/(y=0/\x=4/\cH x y=2)\/(x=6/\y=6/\cH x y=2)\/(y=0/\x≠7/\x≠4/\x≠5/\x≠6/\cH x y=0)\/(y=0/\x=6/\cH x y=0)\/(y≠4/\y≠5/\y≠8/\x≠7/\y≠0/\x≠6/\cH x y=0)\/(y≠4/\y≠5/\y≠8/\x=6/\y≠6/\y≠0/\cH x y=0):=by
   rw [HS.out]
   by_cases a1:y=4
   ·exact .inl ⟨a1,by rw [if_pos (.inl a1)]⟩
   by_cases a2:y=5
   ·exact .inr (.inl ⟨a2,by rw [if_pos (.inr (.inl a2))]⟩)
   by_cases a3:y=8
   ·exact .inr (.inr (.inl ⟨a3,by rw [if_pos (.inr (.inr (.inl a3)))]⟩))
   by_cases a4:x=7
   ·exact .inr (.inr (.inr (.inl ⟨a4,a1,a2,a3,by rw [if_pos (.inr (.inr (.inr a4)))]⟩)))
   rw [if_neg (by omega)];refine .inr (.inr (.inr (.inr ?_)))
   by_cases a5:y=0
   ·by_cases b1:x=5
    ·exact .inl ⟨a5,b1,by rw [if_pos (.inl ⟨a5,.inl b1⟩)]⟩
    by_cases b2:x=4
    ·exact .inr (.inl ⟨a5,b2,by rw [if_pos (.inl ⟨a5,.inr b2⟩)]⟩)
    rw [if_neg (by omega)]
    by_cases b3:x=6
    ·exact .inr (.inr (.inr (.inr (.inl ⟨a5,b3,rfl⟩))))
    ·exact .inr (.inr (.inr (.inl ⟨a5,a4,b2,b1,b3,rfl⟩)))
   ·by_cases b3:x=6
    ·by_cases b4:y=6
     ·exact .inr (.inr (.inl ⟨b3,b4,by rw [if_pos (.inr ⟨b3,b4⟩)]⟩))
     ·rw [if_neg (by omega)];exact .inr (.inr (.inr (.inr (.inr (.inr ⟨a1,a2,a3,b3,b4,a5,rfl⟩)))))
    ·rw [if_neg (by omega)];exact .inr (.inr (.inr (.inr (.inr (.inl ⟨a1,a2,a3,a4,a5,b3,rfl⟩)))))
  have HC:=ab hc;have e2:(x == 1)=false:=by simp;omega
  clear hc HS
  go_enter Tryz.func249,Tryz.ntmps249
  go_wp2_with fail
  refine (bM a _).mono ?_;rintro e w' ⟨rfl,rfl⟩;rw [<-HX.out]
  go_wp2_with fail
  refine (bM b _).mono ?_;rintro e w' ⟨rfl,rfl⟩;rw [<-HY.out]
  go_wp2_with fail
  refine (dp _ _).mono ?_;rintro e w' ⟨rfl,rfl⟩;rw [H2.out]
  go_wp2_with fail
  refine (dp _ _).mono ?_;rintro e w' ⟨rfl,rfl⟩;rw [H3.out]
  go_wp2_with fail
  refine (sz _ _ _).mono ?_;rintro e w' ⟨rfl,rfl⟩;rw [H4.out];clear HX HY H2 H3 H4
  rcases HC.out with ⟨g1,hs⟩ | ⟨g1,hs⟩ | ⟨g1,hs⟩ | ⟨g1,g2,g3,g4,hs⟩ | ⟨g1,g2,hs⟩ | ⟨g1,g2,hs⟩ | ⟨g1,g2,hs⟩ | ⟨g1,g2,g3,g4,g5,hs⟩ | ⟨g1,g2,hs⟩ | ⟨g1,g2,g3,g4,g5,g6,hs⟩ | ⟨g1,g2,g3,g4,g5,g6,hs⟩
  all_goals
   clear HC;have HS:=ab hs;clear hs
   try subst g1
   try subst g2
   try subst g4
   try have t1:(x == 1)=false:=by simp;omega
   try have t2:(x == 7)=false:=by simp;omega
   try have t3:(x == 5)=false:=by simp;omega
   try have t4:(x == 4)=false:=by simp;omega
   try have t5:(x == 6)=false:=by simp;omega
   try have t6:(y == 2)=false:=by simp;omega
   try have t7:(y == 4)=false:=by simp;omega
   try have t8:(y == 5)=false:=by simp;omega
   try have t9:(y == 8)=false:=by simp;omega
   try have t10:(y == 0)=false:=by simp;omega
   try have t11:(y == 6)=false:=by simp;omega
   clear ka kb
   try clear g1
   try clear g2
   try clear g3
   try clear g4
   try clear g5
   try clear g6
   try clear h1
   go_wp2;go_ret;exact ⟨al (by rw [HS.out];rfl),rfl⟩
def za:Nat->List UInt8
 | 0=>[48,48,48,48,49,49,48,48,49,48,48,48,48,48]
 | 1=>[48,48,49,48,48,48,48,48,48,48,48,48,48,48]
 | 2=>[48,48,48,48,48,48,48,48,48,48,48,48,48,48]
 | 3=>[48,48,48,48,48,48,48,48,48,48,48,48,48,48]
 | 4=>[50,48,48,48,49,49,48,48,49,48,48,48,48,48]
 | 5=>[50,48,48,48,49,49,48,48,49,48,48,48,48,48]
 | 6=>[48,48,48,48,49,49,50,48,49,48,48,48,48,48]
 | 7=>[49,48,48,48,49,49,49,49,49,49,49,49,49,49]
 | 8=>[48,48,48,48,49,49,48,48,49,48,48,48,48,48]
 | 9=>[48,48,48,48,49,49,48,48,49,49,49,48,49,49]
 | 10=>[48,48,48,48,49,49,48,48,49,48,49,49,48,48]
 | 11=>[48,48,48,48,49,49,48,48,49,48,48,49,48,48]
 | 12=>[48,48,48,48,49,49,48,48,49,48,49,49,48,48]
 | _=>[48,48,48,48,49,49,48,48,49,48,48,49,48,48]
def mx(i:Nat):ByteArray:=⟨(za i).toArray⟩
theorem mU(i:Nat):(mx i).size=14:=by
 unfold mx za
 split <;> rfl
theorem zb:∀ a:Fin 14,∀ b:Fin 14,((za a.val).getD b.val 0).toNat=(48+cH a.val b.val):=by decide +kernel
theorem z7(a b:Nat)(ha:a<14)(h:b<(mx a).size):(((mx a)[b]'h).toNat:Int)=48+cH a b:=by
 have hb:b<14:=by rw [mU] at h;exact h
 have:=zb ⟨a,ha⟩ ⟨b,hb⟩;have hl:b<(za a).length:=h;simp only [List.getD,List.getElem?_eq_getElem hl,Option.getD_some] at this;exact this
def z8(w:World)(e:Ending)(w':World):Prop:=∃ g,e=.returned (.slice (some ⟨g,0,none⟩) 14 14)/\(∀ i,i<14->w'.cell? ⟨g,i,none⟩=some (.string (mx i)))/\Below w.heap.size w w'
theorem jq(w:World):Calls Tryz.prog 288 #[] w (z8 w):=by
 go_enter Tryz.func288,Tryz.ntmps288
 go_wp2;go_ret;refine ⟨_,rfl,fun i hi=>?_,AU _ _⟩;rw [cell_of_row _ w.heap.size i _ _ (0,0) (heap_alloc_new w _)]
 match i,hi with
 | 0,_=>exact congrArg some rfl
 | 1,_=>exact congrArg some rfl
 | 2,_=>exact congrArg some rfl
 | 3,_=>exact congrArg some rfl
 | 4,_=>exact congrArg some rfl
 | 5,_=>exact congrArg some rfl
 | 6,_=>exact congrArg some rfl
 | 7,_=>exact congrArg some rfl
 | 8,_=>exact congrArg some rfl
 | 9,_=>exact congrArg some rfl
 | 10,_=>exact congrArg some rfl
 | 11,_=>exact congrArg some rfl
 | 12,_=>exact congrArg some rfl
 | 13,_=>exact congrArg some rfl
def fU(w:World)(a b:Int)(e:Ending)(w':World):Prop:=e=.returned (.int .i64 (cq a b))/\Below w.heap.size w w'
theorem eS(a b:Nat)(ha:a<14)(hb:b<14)(s:ByteArray)(hs:s=mx a):s.size=14/\∀ h:b<s.size,((s[b]'h).toNat:Int) - 48=cH a b:=by
 subst hs;exact ⟨mU a,fun h=>by rw [z7 a b ha h];omega⟩
theorem jr(u:UInt8):wrap64 (wrap64 (u.toNat:Int) - 48)=(u.toNat:Int) - 48:=by
 have h:=u.toNat_lt;simp only [wrap64];omega
theorem oH(i:Nat)(h:i<14):clI (i:Int)=(i:Int):=by unfold clI;omega
theorem kX(a:Int)(h:a<0\/13<a):clI a=((0:Nat):Int):=by unfold clI;simp;omega
theorem rt(i:Nat)(hi:i<14)(j:Nat)(hj:j<14)(w:World):Calls Tryz.prog 253 #[.int .i64 (i:Int),.int .i64 (j:Int)] w (fU w (i:Int) (j:Int)):=by
 have HJ:=ab (show cq (i:Int) (j:Int)=cH ((i:Nat):Int) ((j:Nat):Int) from by unfold cq;rw [oH i hi,oH j hj])
 all_goals
  go_enter Tryz.func253,Tryz.ntmps253
  go_wp2_with fail
  refine (jq _).mono ?_;rintro e w1 ⟨g,rfl,hc,hbl⟩;have MX:=hc i (by omega);clear hc;obtain ⟨s,hs⟩:=ae (mx i);rw [<-hs] at MX;obtain ⟨hz,ht⟩:=eS i j (by omega) (by omega) s hs;have HT:=ab ht;have hz2:14<=s.size:=by omega
  clear ht hs hz;go_wp2;go_ret;exact ⟨al (by show Value.int .i64 (wrap64 (wrap64 (s[j]'(by omega)).toNat - 48))=_;rw [HJ.out,<-HT.out (by omega),jr]),hbl⟩
theorem ru(i:Nat)(hi:i<14)(b:Int)(hb:b<0\/13<b)(w:World):Calls Tryz.prog 253 #[.int .i64 (i:Int),.int .i64 b] w (fU w (i:Int) b):=by
 have HJ:=ab (show cq (i:Int) b=cH ((i:Nat):Int) ((0:Nat):Int) from by unfold cq;rw [oH i hi,kX b hb])
 all_goals rcases hb with hb | hb
 all_goals
  go_enter Tryz.func253,Tryz.ntmps253
  go_wp2_with fail
  refine (jq _).mono ?_;rintro e w1 ⟨g,rfl,hc,hbl⟩;have MX:=hc i (by omega);clear hc;obtain ⟨s,hs⟩:=ae (mx i);rw [<-hs] at MX;obtain ⟨hz,ht⟩:=eS i 0 (by omega) (by omega) s hs;have HT:=ab ht;have hz2:14<=s.size:=by omega
  clear ht hs hz;go_wp2;go_ret;exact ⟨al (by show Value.int .i64 (wrap64 (wrap64 (s[0]'(by omega)).toNat - 48))=_;rw [HJ.out,<-HT.out (by omega),jr]),hbl⟩
theorem rv(a:Int)(ha:a<0\/13<a)(j:Nat)(hj:j<14)(w:World):Calls Tryz.prog 253 #[.int .i64 a,.int .i64 (j:Int)] w (fU w a (j:Int)):=by
 have HJ:=ab (show cq a (j:Int)=cH ((0:Nat):Int) ((j:Nat):Int) from by unfold cq;rw [kX a ha,oH j hj])
 rcases ha with ha | ha
 all_goals
  go_enter Tryz.func253,Tryz.ntmps253
  go_wp2_with fail
  refine (jq _).mono ?_;rintro e w1 ⟨g,rfl,hc,hbl⟩;have MX:=hc 0 (by omega);clear hc;obtain ⟨s,hs⟩:=ae (mx 0);rw [<-hs] at MX;obtain ⟨hz,ht⟩:=eS 0 j (by omega) (by omega) s hs;have HT:=ab ht;have hz2:14<=s.size:=by omega
  clear ht hs hz;go_wp2;go_ret;exact ⟨al (by show Value.int .i64 (wrap64 (wrap64 (s[j]'(by omega)).toNat - 48))=_;rw [HJ.out,<-HT.out (by omega),jr]),hbl⟩
theorem rx(a:Int)(ha:a<0\/13<a)(b:Int)(hb:b<0\/13<b)(w:World):Calls Tryz.prog 253 #[.int .i64 a,.int .i64 b] w (fU w a b):=by
 have HJ:=ab (show cq a b=cH ((0:Nat):Int) ((0:Nat):Int) from by unfold cq;rw [kX a ha,kX b hb])
 rcases ha with ha | ha
 all_goals rcases hb with hb | hb
 all_goals
  go_enter Tryz.func253,Tryz.ntmps253
  go_wp2_with fail
  refine (jq _).mono ?_;rintro e w1 ⟨g,rfl,hc,hbl⟩;have MX:=hc 0 (by omega);clear hc;obtain ⟨s,hs⟩:=ae (mx 0);rw [<-hs] at MX;obtain ⟨hz,ht⟩:=eS 0 0 (by omega) (by omega) s hs;have HT:=ab ht;have hz2:14<=s.size:=by omega
  clear ht hs hz;go_wp2;go_ret;exact ⟨al (by show Value.int .i64 (wrap64 (wrap64 (s[0]'(by omega)).toNat - 48))=_;rw [HJ.out,<-HT.out (by omega),jr]),hbl⟩
theorem pI(a b:Int)(w:World):Calls Tryz.prog 253 #[.int .i64 a,.int .i64 b] w (fU w a b):=by
 by_cases ha:a<0\/13<a
 ·by_cases hb:b<0\/13<b
  ·exact rx a ha b hb w
  ·obtain ⟨j,rfl⟩ : ∃ j:Nat,b=(j:Int):=⟨b.toNat,by omega⟩;exact rv a ha j (by omega) w
 ·obtain ⟨i,rfl⟩ : ∃ i:Nat,a=(i:Int):=⟨a.toNat,by omega⟩
  by_cases hb:b<0\/13<b
  ·exact ru i (by omega) b hb w
  ·obtain ⟨j,rfl⟩ : ∃ j:Nat,b=(j:Int):=⟨b.toNat,by omega⟩;exact rt i (by omega) j (by omega) w
section
namespace Reg
@[go_sem] def upon(P:Program)(Post:Value->World->Prop):Result Next->Prop
 | .ok (.value u) w'=>Post u w'
 | .ok .skip w'=>Post undef w'
 | .ok (.enter f args) w'=>Calls P f args w' (fun e w''=>∃ v,e=.returned v/\Post v w'')
 | _=>False
structure Plan where
 F:(Nat->Value)->Act
 E:Nat->Value->World->Prop
 C:Array Bool->World->Prop
 Ext:World->World->Prop
 stable:∀ j x w w',Ext w w'->E j x w->E j x w'
def upd(xs:Nat->Value)(i:Nat)(v:Value):Nat->Value:=fun j=>if j=i then v else xs j
def Closed(l:List Oper)(L:Array Bool):Prop:=∀ j o,l[j]? = some o->L.getD j false=true->∀ e ∈ o.after,Region.binds .any e=true->L.getD e.on false=true
theorem Closed.next{l:List Oper}{L:Array Bool}{i:Nat}(h:Closed l L)(hr:i ∈ Region.ready .any l.toArray L):Closed l (L.setIfInBounds i true):=by
 intro j o ho hl e he hb
 by_cases Nl:i=j
 ·subst Nl;obtain ⟨_,o',C3,hall⟩:=mem_ready.1 hr;obtain rfl:o=o':=Option.some.inj (ho.symm.trans (by simpa using C3));exact getD_set_true (hall e he hb)
 ·rw [getD_set_ne false Nl] at hl;exact getD_set_true (h j o ho hl e he hb)
theorem Closed.start(l:List Oper)(n:Nat):Closed l (Array.replicate n false):=fun j o _ hl=>by rw [getD_replicate_false] at hl;cases hl
def reach(ops:Array Oper):Nat->Nat->Nat->Bool
 |0,_,_=>false
 |f+1,i,j=>Region.waitsFor .any ops i j || match ops[i]? with
  | some o=>o.after.any fun e=>Region.binds .any e && reach ops f e.on j
  | none=>false
theorem Closed.reach{l:List Oper}{L:Array Bool}(h:Closed l L):∀ (f i j:Nat),L.getD i false=true->reach l.toArray f i j=true->L.getD j false=true
 |0,_,_,_,hr=>by simp [Reg.reach] at hr
 |f+1,i,j,hi,hr=>by
  unfold Reg.reach at hr;rw [Bool.or_eq_true] at hr
  rcases hr with hr | hr
  ·obtain ⟨o,ho,e,he,hb,JI⟩:=Region.waitsFor_spec hr;rw [<-JI];exact h i o (by simpa using ho) hi e he hb
  ·cases ho:l.toArray[i]? with
   |none=>rw [ho] at hr;cases hr
   |some o =>
    rw [ho] at hr;obtain ⟨e,he,hb⟩:=Array.any_eq_true'.1 hr;rw [Bool.and_eq_true] at hb;exact Closed.reach h f e.on j (h i o (by simpa using ho) hi e he hb.1) hb.2
structure Here (p:Plan) (l:List Oper) (xs0:Nat->Value) (i:Nat) (L:Array Bool) (w:World) (xs:Nat->Value):Prop where
 size:L.size=l.length
 closed:Closed l L
 ready:i ∈ Region.ready .any l.toArray L
 cls:p.C L w
 vals:∀ j,j<l.length->L.getD j false=true->p.E j (xs j) w
 olds:∀ j,L.getD j false=false->xs j=xs0 j
theorem Here.dep{p:Plan}{l:List Oper}{xs0:Nat->Value}{i:Nat}{L:Array Bool}{w:World}{xs:Nat->Value}(h:Here p l xs0 i L w xs)(j:Nat)(hj:reach l.toArray 6 i j=true):L.getD j false=true:=by
 obtain ⟨_,o,ho,hall⟩:=mem_ready.1 h.ready;unfold reach at hj;rw [Bool.or_eq_true] at hj
 rcases hj with hj | hj
 ·obtain ⟨o',C3,e,he,hb,JI⟩:=Region.waitsFor_spec hj;obtain rfl:o=o':=Option.some.inj (ho.symm.trans C3);rw [<-JI];exact hall e he hb
 ·rw [ho] at hj;obtain ⟨e,he,hb⟩:=Array.any_eq_true'.1 hj;rw [Bool.and_eq_true] at hb;exact h.closed.reach 5 e.on j (hall e he hb.1) hb.2
theorem Here.val{p:Plan}{l:List Oper}{xs0:Nat->Value}{i:Nat}{L:Array Bool}{w:World}{xs:Nat->Value}(h:Here p l xs0 i L w xs)(j:Nat)(hj:reach l.toArray 6 i j=true)(hl:decide (j<l.length)=true):p.E j (xs j) w :=
 h.vals j (of_decide_eq_true hl) (h.dep j hj)
theorem Here.un{p:Plan}{l:List Oper}{xs0:Nat->Value}{i:Nat}{L:Array Bool}{w:World}{xs:Nat->Value}(h:Here p l xs0 i L w xs):Mix.one L i=0:=Mix.one_ready h.ready
theorem Here.isDone{p:Plan}{l:List Oper}{xs0:Nat->Value}{i:Nat}{L:Array Bool}{w:World}{xs:Nat->Value}(h:Here p l xs0 i L w xs)(j:Nat)(hj:reach l.toArray 6 i j=true):Mix.one L j=1:=by
 unfold Mix.one;rw [if_pos (h.dep j hj)]
theorem Here.v{p:Plan}{l:List Oper}{xs0:Nat->Value}{i:Nat}{L:Array Bool}{w:World}{xs:Nat->Value}(h:Here p l xs0 i L w xs)(j:Nat)(hj:reach l.toArray 6 i j=true:=by kernel_rfl)(hl:decide (j<l.length)=true:=by kernel_rfl):p.E j (xs j) w:=h.val j hj hl
theorem Here.notYet{p:Plan}{l:List Oper}{xs0:Nat->Value}{i:Nat}{L:Array Bool}{w:World}{xs:Nat->Value}(h:Here p l xs0 i L w xs)(j:Nat)(hj:reach l.toArray 6 j i=true):L.getD j false=false:=by
 cases hl:L.getD j false with
 |false=>rfl
 |true =>
  have h1:=h.closed.reach 6 j i hl hj;have h2:=(mem_ready.1 h.ready).1;obtain ⟨o',C3,_⟩:=(mem_ready.1 h.ready).2;have hlt:i<l.length:=by simpa using (Array.getElem?_eq_some_iff.1 C3).1
  rw [ez (by rw [h.size];exact hlt),h2] at h1
  cases h1
theorem Here.old{p:Plan}{l:List Oper}{xs0:Nat->Value}{i:Nat}{L:Array Bool}{w:World}{xs:Nat->Value}(h:Here p l xs0 i L w xs)(j:Nat)(hj:reach l.toArray 6 j i=true):xs j=xs0 j:=h.olds j (h.notYet j hj)
def Step(P:Program)(p:Plan)(l:List Oper)(xs0:Nat->Value)(i:Nat)(o:Oper):Prop :=
 ∀ L w xs,Here p l xs0 i L w xs ->
  (Region.wanted o (yielded l.toArray (p.F xs).tmps)=true/\upon P (fun v w'=>p.C (L.setIfInBounds i true) w'/\p.E i v w'/\p.Ext w w') ((execOp (p.F xs).eval o).run P w)) \/
  (Region.wanted o (yielded l.toArray (p.F xs).tmps)=false/\p.C (L.setIfInBounds i true) w/\p.E i undef w)
def Steps(P:Program)(p:Plan)(l:List Oper)(xs0:Nat->Value):List Oper->Nat->Prop
 | [],_=>True
 | o :: rest,i=>Step P p l xs0 i o/\Steps P p l xs0 rest (i+1)
def Puts(p:Plan):List Oper->Nat->Prop
 | [],_=>True
 | o :: rest,i=>(∀ xs v,(p.F xs).put o.dst v=p.F (upd xs i v))/\Puts p rest (i+1)
theorem puts_at{p:Plan}:∀ (m:List Oper) (k:Nat),Puts p m k->∀ j o,m[j]? = some o->∀ xs v,(p.F xs).put o.dst v=p.F (upd xs (k+j) v)
 |[],_,_,j,o,h=>by simp at h
 |q :: m,k,hs,j,o,h=>by
  cases j with
  |zero=>simp at h;subst h;exact hs.1
  |succ j =>
   have:=puts_at m (k+1) hs.2 j o (by simpa using h)
   rwa [show k+1+j=k+(j+1) by omega] at this
theorem steps_at{P:Program}{p:Plan}{l:List Oper}{xs0:Nat->Value}:∀ (m:List Oper) (k:Nat),Steps P p l xs0 m k->∀ j o,m[j]? = some o->Step P p l xs0 (k+j) o
 |[],_,_,j,o,h=>by simp at h
 |q :: m,k,hs,j,o,h=>by
  cases j with
  |zero=>simp at h;subst h;exact hs.1
  |succ j =>
   have:=steps_at m (k+1) hs.2 j o (by simpa using h)
   rwa [show k+1+j=k+(j+1) by omega] at this
section
variable {P : Program} {l : List Oper} {p : Plan} {xs0 : Nat → Value}
def Inv(p:Plan)(l:List Oper)(xs0:Nat->Value)(L:Array Bool)(a:Act)(w:World):Prop:=∃ xs,a=p.F xs/\L.size=l.length/\Closed l L/\p.C L w/\(∀ j,j<l.length->L.getD j false=true->p.E j (xs j) w)/\∀ j,L.getD j false=false->xs j=xs0 j
theorem Inv.next{L:Array Bool}{w w':World}{xs:Nat->Value}{i:Nat}{o:Oper}{v:Value}(hput:∀ i o,l[i]? = some o->∀ xs v,(p.F xs).put o.dst v=p.F (upd xs i v))(ho:l[i]? = some o)(hs:L.size=l.length)(hc:Closed l (L.setIfInBounds i true))
  (hv:∀ j,j<l.length->L.getD j false=true->p.E j (xs j) w) (hold:∀ j,L.getD j false=false->xs j=xs0 j) (hC:p.C (L.setIfInBounds i true) w') (hE:p.E i v w') (hx:∀ j,p.E j (xs j) w->p.E j (xs j) w'):Inv p l xs0 (L.setIfInBounds i true) ((p.F xs).put o.dst v) w':=by
 refine ⟨upd xs i v,hput i o ho xs v,by simpa using hs,hc,hC,fun j hj hl=>?_,fun j hl=>?_⟩
 ·unfold upd
  by_cases h:j=i
  ·subst h;rw [if_pos rfl];exact hE
  ·rw [if_neg h];rw [getD_set_ne false (Ne.symm h)] at hl;exact hx j (hv j hj hl)
 ·unfold upd
  by_cases h:j=i
  ·subst h;have hlt:j<L.size:=by rw [hs];exact (List.getElem?_eq_some_iff.1 ho).1
   rw [Array.getD_eq_getD_getElem?,Array.getElem?_setIfInBounds_self_of_lt hlt] at hl
   cases hl
  ·rw [if_neg h];rw [getD_set_ne false (Ne.symm h)] at hl;exact hold j hl
theorem wpOp_of{L:Array Bool}{a:Act}{w:World}{i:Nat}{K':Act->World->Prop}{Q':Exit->Act->World->Prop}(hput:∀ i o,l[i]? = some o->∀ xs v,(p.F xs).put o.dst v=p.F (upd xs i v))(hst:Steps P p l xs0 l 0)(hI:Inv p l xs0 L a w)(hr:i ∈ Region.ready .any l.toArray L)
  (h:∀ a' w',Inv p l xs0 (L.setIfInBounds i true) a' w'->K' a' w'):wpOp P l.toArray Q' i K' a w:=by
 obtain ⟨xs,rfl,hs,DU,hC,hv,hold⟩:=hI;have IN:=DU.next hr;obtain ⟨_,o,ho,_⟩:=mem_ready.1 hr;have C3:l[i]? = some o:=by simpa using ho
 have hstep:=steps_at l 0 hst i o C3;rw [Nat.zero_add] at hstep;unfold wpOp;simp only [ho]
 rcases hstep L w xs ⟨hs,DU,hr,hC,hv,hold⟩ with ⟨hw,hu⟩ | ⟨hw,Kw,hE⟩
 ·rw [if_pos hw];refine .inl ?_;unfold Oper.wp;generalize (execOp (p.F xs).eval o).run P w=r at *
  cases r with
  |halt x w'=>exact hu.elim
  |ok n w' =>
   cases n <;> simp only [upon] at hu <;> simp only [Oper.upon]
   case value u =>
    obtain ⟨h1,h2,h3⟩:=hu;exact h _ _ (Inv.next hput C3 hs IN hv hold h1 h2 fun j=>p.stable j _ _ _ h3)
   case skip =>
    obtain ⟨h1,h2,h3⟩:=hu;exact h _ _ (Inv.next hput C3 hs IN hv hold h1 h2 fun j=>p.stable j _ _ _ h3)
   case enter f args =>
    exact hu.mono fun e w'' ⟨v,he,h1,h2,h3⟩=>by
     subst he;exact h _ _ (Inv.next hput C3 hs IN hv hold h1 h2 fun j=>p.stable j _ _ _ h3)
 ·rw [if_neg (by rw [hw];exact Bool.false_ne_true)];exact h _ _ (Inv.next hput C3 hs IN hv hold Kw hE fun j h=>h)
theorem any_of{Q':Exit->Act->World->Prop}(BB:fT (l++[default]) l.length=true)(hput:∀ i o,l[i]? = some o->∀ xs v,(p.F xs).put o.dst v=p.F (upd xs i v))(hst:Steps P p l xs0 l 0)(hQ:∀ a w,Inv p l xs0 (Array.replicate l.length true) a w->Q' .normal a w) :
  ∀ (f:Nat) (L:Array Bool) (a:Act) (w:World),L.size=l.length->Inv p l xs0 L a w->de l.length L=f->wpAny P .any l.toArray Q' f L a w:=by
 have hend:∀ (L:Array Bool) a w,L.size=l.length->Region.ready .any l.toArray L=[]->Inv p l xs0 L a w->Q' .normal a w:=by
  intro L a w hs hr hI;rw [Mix.all_listed BB hs hr] at hI;exact hQ a w hI
 intro f
 induction f with
 |zero =>
  intro L a w hs hI hu;have hr:Region.ready .any l.toArray L=[]:=by
   cases hc:Region.ready .any l.toArray L with
   |nil=>rfl
   |cons i t =>
    have hi:i ∈ Region.ready .any l.toArray L:=by rw [hc];simp
    obtain ⟨h0,o,ho,_⟩:=mem_ready.1 hi;have hlt:i<l.length:=by simpa using (Array.getElem?_eq_some_iff.1 ho).1
    have:=es hu i hlt;rw [this] at h0
    cases h0
  exact ⟨hr,hend L a w hs hr hI⟩
 |succ f ih =>
  intro L a w hs hI hu;refine ⟨fun hr=>hend L a w hs hr hI,fun i hi=>wpOp_of hput hst hI hi fun a' w' hI'=>ih _ a' w' (by simpa using hs) hI' ?_⟩;obtain ⟨h0,o,ho,_⟩:=mem_ready.1 hi;have hlt:i<l.length:=by simpa using (Array.getElem?_eq_some_iff.1 ho).1
  have:=eR hs hlt h0;omega
theorem dv(n:Nat):de n (Array.replicate n false)=n:=by
 unfold de;rw [List.filter_eq_self.2 (fun i hi=>by
  have:=List.mem_range.1 hi;rw [getD_in (by simpa using this) (getD_replicate_false _ _)];rfl),List.length_range]
theorem region{id:Nat}{Q:Exit->Act->World->Prop}{a:Act}{w:World}(p:Plan)(xs0:Nat->Value)(hm:P.follows .mixedOrders=true)(BB:fT (l++[default]) l.length=true)(h0:a=p.F xs0)(hC:p.C (Array.replicate l.length false) { w with drawn:=w.drawn+1 })
  (Gu:Puts p l 0) (hst:Steps P p l xs0 l 0)
  (hend:∀ xs w',p.C (Array.replicate l.length true) w'->(∀ j,j<l.length->p.E j (xs j) w')->Q .normal (p.F xs) w'):(Code.region id l.toArray true).wp P Q a w:=by
 refine wp_region_any hm ?_;have hput:∀ i o,l[i]? = some o->∀ xs v,(p.F xs).put o.dst v=p.F (upd xs i v):=fun i o ho=>by
  have:=puts_at l 0 Gu i o ho
  rwa [Nat.zero_add] at this
 have:=any_of (Q':=Q) BB hput hst (fun a w ⟨xs,e,_,_,hC,hv,_⟩=>by
  subst e;refine hend xs w hC fun j hj=>hv j hj ?_
  rw [Array.getD_eq_getD_getElem?,Array.getElem?_replicate,if_pos hj]
  rfl) l.length (Array.replicate l.length false) a { w with drawn:=w.drawn+1 } (by simp) ⟨xs0,h0,by simp,Closed.start _ _,hC,fun j hj hl=>(by rw [getD_replicate_false] at hl;cases hl),fun j _=>rfl⟩ (dv _)
 simpa using this
def frame(xs:Nat->Value):List (Option Tmp)->Nat->Act->Act
 | [],_,a=>a
 | d :: ds,i,a=>frame xs ds (i+1) (a.put d (xs i))
theorem put_none(a:Act)(v:Value):a.put none v=a:=rfl
def dsts(l:List Oper):List (Option Tmp):=l.map (·.dst)
def dz:List (Option Tmp)->Bool
 | []=>true
 | none :: ds=>dz ds
 | some d :: ds=>!ds.contains (some d) && dz ds
theorem mV(xs:Nat->Value)(d:Option Tmp)(v:Value):∀ (ds:List (Option Tmp)) (i:Nat) (a:Act),(∀ c,d=some c->some c ∉ ds)->frame xs ds i (a.put d v)=(frame xs ds i a).put d v
 |[],_,_,_=>rfl
 |e :: ds,i,a,h=>by
  unfold frame;rw [Act.put_comm a v (xs i) (fun c hc=>fun he=>h c hc (by simp [he])),mV xs d v ds (i+1) _ (fun c hc hm=>h c hc (by simp [hm]))]
theorem iG(xs:Nat->Value)(j:Nat)(v:Value):∀ (ds:List (Option Tmp)) (i:Nat) (a:Act),j<i->frame (upd xs j v) ds i a=frame xs ds i a
 |[],_,_,_=>rfl
 |e :: ds,i,a,h=>by
  unfold frame;rw [show upd xs j v i=xs i from if_neg (by omega)];exact iG xs j v ds (i+1) _ (by omega)
theorem tT(a:Act)(d:Option Tmp)(u v:Value):(a.put d u).put d v=a.put d v:=by
 cases d with
 | none=>rfl
 | some d=>simp [Act.put]
theorem fj(xs:Nat->Value)(v:Value):∀ (ds:List (Option Tmp)) (i:Nat) (a:Act),dz ds=true->∀ j d,ds[j]? = some d->(frame xs ds i a).put d v=frame (upd xs (i+j) v) ds i a
 |[],_,_,_,j,d,h=>by simp at h
 |e :: ds,i,a,ha,j,d,h=>by
  have JA:dz ds=true:=by
   cases e with
   | none=>exact ha
   | some e=>simp only [dz,Bool.and_eq_true] at ha;exact ha.2
  cases j with
  |zero =>
   simp at h
   subst h;unfold frame;simp only [Nat.add_zero];rw [iG xs i v ds (i+1) _ (by omega),show upd xs i v i=v from if_pos rfl];rw [<-mV xs e v ds (i+1) _ (fun c hc hm=>by subst hc;simp only [dz,Bool.and_eq_true,Bool.not_eq_true',List.contains_eq_mem,decide_eq_false_iff_not] at ha;exact ha.1 hm),tT]
  |succ j =>
   unfold frame;rw [show upd xs (i+(j+1)) v i=xs i from if_neg (by omega),fj xs v ds (i+1) _ JA j d (by simpa using h),show i+1+j=i+(j+1) by omega]
theorem puts_of{p:Plan}:∀ (m:List Oper) (k:Nat),(∀ j d,(dsts m)[j]? = some d->∀ xs v,(p.F xs).put d v=p.F (upd xs (k+j) v))->Puts p m k
 | [],_,_=>trivial
 | o :: m,k,h=>⟨fun xs v=>h 0 o.dst (by simp [dsts]) xs v,puts_of m (k+1) fun j d hd xs v=>by
  have:=h (j+1) d (by simpa [dsts] using hd) xs v
  rwa [show k+(j+1)=k+1+j by omega] at this⟩
theorem dP{l:List Oper}(a:Act)(hap:dz (dsts l)=true):a=frame (fun i=>match (dsts l)[i]? with | some (some d)=>a.tmps.getD d undef | _=>undef) (dsts l) 0 a:=by
 symm
 suffices h:∀ (ds:List (Option Tmp)) (i:Nat) (b:Act) (ys:Nat->Value),(∀ j d,ds[j]? = some (some d)->ys (i+j)=b.tmps.getD d undef)->dz ds=true->frame ys ds i b=b from
  h (dsts l) 0 a _ (fun j d hd=>by simp only [Nat.zero_add,hd]) hap
 intro ds
 induction ds with
 |nil=>intro _ _ _ _ _;rfl
 |cons e ds ih =>
  intro i b ys hy ha;have JA:dz ds=true:=by
   cases e with
   |none=>exact ha
   |some e=>simp only [dz,Bool.and_eq_true] at ha;exact ha.2
  have hb:b.put e (ys i)=b:=by
   cases e with
   |none=>rfl
   |some d =>
    have h0:=hy 0 d rfl;rw [Nat.add_zero] at h0;rw [h0];have hs:b.tmps.setIfInBounds d (b.tmps.getD d undef)=b.tmps:=by
     apply Array.ext
     ·simp
     ·intro q q1 q2;rw [Array.getElem_setIfInBounds]
      split
      ·rename_i hq
       subst hq;rw [Array.getD_eq_getD_getElem?,Array.getElem?_eq_getElem q2]
       rfl
      ·rfl
    show (⟨b.tmps.setIfInBounds d (b.tmps.getD d undef),b.defers⟩ : Act)=b;rw [hs]
  unfold frame;rw [hb];exact ih (i+1) b ys (fun j d hd=>by
   have:=hy (j+1) d (by simpa using hd)
   rwa [show i+(j+1)=i+1+j by omega] at this) JA
theorem lJ{l:List Oper}{k:Nat}(hk:k<l.length):(aZ l k).setIfInBounds k true=aZ l (k+1):=by
 apply Array.ext
 ·simp [aZ]
 ·intro i h1 h2;rw [Array.getElem_setIfInBounds (by simpa using h1)]
  ·have h3:(aZ l (k+1))[i]=decide (i<k+1):=by simp [aZ]
   have h4:∀ h,(aZ l k)[i]'h=decide (i<k):=fun h=>by simp [aZ]
   rw [h3,h4]
   by_cases h:k=i
   ·subst h;simp
   ·rw [if_neg h]
    by_cases h5:i<k
    ·rw [decide_eq_true h5,decide_eq_true (by omega)]
    ·rw [decide_eq_false h5,decide_eq_false (by omega)]
theorem js{l:List Oper}{k i:Nat}(hi:i<l.length)(d:Bool):(aZ l k).getD i d=decide (i<k):=by
 rw [Array.getD_eq_getD_getElem?,Array.getElem?_eq_getElem (by simp [aZ];exact hi)]
 simp [aZ]
theorem j7(l:List Oper):aZ l 0=Array.replicate l.length false:=by
 apply Array.ext
 ·simp [aZ]
 ·intro i h1 h2;simp [aZ]
theorem lK(l:List Oper):aZ l l.length=Array.replicate l.length true:=by
 apply Array.ext
 ·simp [aZ]
 ·intro i h1 h2;have:i<l.length:=by simpa [aZ] using h1
  simp [aZ,this]
theorem iP{l:List Oper}{k:Nat}(BB:fT (l++[default]) l.length=true)(hk:k<l.length):k ∈ Region.ready .any l.toArray (aZ l k):=by
 refine mem_ready.2 ⟨by rw [js hk];simp,l[k],by simp,fun e he hb=>?_⟩;have C3:(l++[default])[k]? = some l[k]:=by rw [List.getElem?_append_left hk];exact List.getElem?_eq_getElem hk
 have hlt:=(lF BB hk C3).1 e he hb;rw [js (by omega)];exact decide_eq_true hlt
theorem regionF{id:Nat}{Q:Exit->Act->World->Prop}{a:Act}{w:World}(E:Nat->Value->World->Prop)(C:Array Bool->World->Prop)(X:World->World->Prop)(st:∀ j x w w',X w w'->E j x w->E j x w')
  (hm:P.follows .mixedOrders=true) (BB:fT (l++[default]) l.length=true) (hap:dz (dsts l)=true) (hC:C (Array.replicate l.length false) { w with drawn:=w.drawn+1 })
  (H:∀ (F:(Nat->Value)->Act),(∀ xs,F xs=frame xs (dsts l) 0 a)->Steps P ⟨F,E,C,X,st⟩ l (fun i=>match (dsts l)[i]? with | some (some d)=>a.tmps.getD d undef | _=>undef) l 0 /\
   (∀ xs w',C (Array.replicate l.length true) w'->(∀ j,j<l.length->E j (xs j) w')->Q .normal (F xs) w')):(Code.region id l.toArray true).wp P Q a w:=by
 obtain ⟨h1,h2⟩:=H (fun xs=>frame xs (dsts l) 0 a) (fun _=>rfl);refine region ⟨fun xs=>frame xs (dsts l) 0 a,E,C,X,st⟩ _ hm BB (dP a hap) hC (puts_of l 0 fun j d hd xs v=>?_) h1 h2;have:=fj xs v (dsts l) 0 a hap j d hd
 simpa using this
end
theorem e4(X:World->World->Prop)(P0 P1 P2 P3:Value->World->Prop)(s0:∀ x w w1,X w w1->P0 x w->P0 x w1:=by exact fun _ _ _ _ h=>h)(s1:∀ x w w1,X w w1->P1 x w->P1 x w1:=by exact fun _ _ _ _ h=>h)(s2:∀ x w w1,X w w1->P2 x w->P2 x w1:=by exact fun _ _ _ _ h=>h)(s3:∀ x w w1,X w w1->P3 x w->P3 x w1:=by exact fun _ _ _ _ h=>h):∃ E:Nat->Value->World->Prop,Hid (∀ j x w w1,X w w1->E j x w->E j x w1)/\Hid (∀ x w,E 0 x w=P0 x w)/\Hid (∀ x w,E 1 x w=P1 x w)/\Hid (∀ x w,E 2 x w=P2 x w)/\Hid (∀ x w,E 3 x w=P3 x w) :=
 ⟨fun j=>match j with | 0=>P0 | 1=>P1 | 2=>P2 | 3=>P3 | _=>fun _ _=>True,ab fun j=>match j with | 0=>s0 | 1=>s1 | 2=>s2 | 3=>s3 | _+4=>fun _ _ _ _ h=>h,ab fun _ _=>rfl,ab fun _ _=>rfl,ab fun _ _=>rfl,ab fun _ _=>rfl⟩
theorem e8(X:World->World->Prop)(P0 P1 P2 P3 P4 P5 P6 P7:Value->World->Prop)(s0:∀ x w w1,X w w1->P0 x w->P0 x w1:=by exact fun _ _ _ _ h=>h)(s1:∀ x w w1,X w w1->P1 x w->P1 x w1:=by exact fun _ _ _ _ h=>h)(s2:∀ x w w1,X w w1->P2 x w->P2 x w1:=by exact fun _ _ _ _ h=>h)(s3:∀ x w w1,X w w1->P3 x w->P3 x w1:=by exact fun _ _ _ _ h=>h)(s4:∀ x w w1,X w w1->P4 x w->P4 x w1:=by exact fun _ _ _ _ h=>h)(s5:∀ x w w1,X w w1->P5 x w->P5 x w1:=by exact fun _ _ _ _ h=>h)(s6:∀ x w w1,X w w1->P6 x w->P6 x w1:=by exact fun _ _ _ _ h=>h)(s7:∀ x w w1,X w w1->P7 x w->P7 x w1:=by exact fun _ _ _ _ h=>h):∃ E:Nat->Value->World->Prop,Hid (∀ j x w w1,X w w1->E j x w->E j x w1)/\Hid (∀ x w,E 0 x w=P0 x w)/\Hid (∀ x w,E 1 x w=P1 x w)/\Hid (∀ x w,E 2 x w=P2 x w)/\Hid (∀ x w,E 3 x w=P3 x w)/\Hid (∀ x w,E 4 x w=P4 x w)/\Hid (∀ x w,E 5 x w=P5 x w)/\Hid (∀ x w,E 6 x w=P6 x w)/\Hid (∀ x w,E 7 x w=P7 x w) :=
 ⟨fun j=>match j with | 0=>P0 | 1=>P1 | 2=>P2 | 3=>P3 | 4=>P4 | 5=>P5 | 6=>P6 | 7=>P7 | _=>fun _ _=>True,ab fun j=>match j with | 0=>s0 | 1=>s1 | 2=>s2 | 3=>s3 | 4=>s4 | 5=>s5 | 6=>s6 | 7=>s7 | _+8=>fun _ _ _ _ h=>h,ab fun _ _=>rfl,ab fun _ _=>rfl,ab fun _ _=>rfl,ab fun _ _=>rfl,ab fun _ _=>rfl,ab fun _ _=>rfl,ab fun _ _=>rfl,ab fun _ _=>rfl⟩
theorem e12(X:World->World->Prop)(P0 P1 P2 P3 P4 P5 P6 P7 P8 P9 P10 P11:Value->World->Prop)(s0:∀ x w w1,X w w1->P0 x w->P0 x w1:=by exact fun _ _ _ _ h=>h)(s1:∀ x w w1,X w w1->P1 x w->P1 x w1:=by exact fun _ _ _ _ h=>h)(s2:∀ x w w1,X w w1->P2 x w->P2 x w1:=by exact fun _ _ _ _ h=>h)(s3:∀ x w w1,X w w1->P3 x w->P3 x w1:=by exact fun _ _ _ _ h=>h)(s4:∀ x w w1,X w w1->P4 x w->P4 x w1:=by exact fun _ _ _ _ h=>h)(s5:∀ x w w1,X w w1->P5 x w->P5 x w1:=by exact fun _ _ _ _ h=>h)(s6:∀ x w w1,X w w1->P6 x w->P6 x w1:=by exact fun _ _ _ _ h=>h)(s7:∀ x w w1,X w w1->P7 x w->P7 x w1:=by exact fun _ _ _ _ h=>h)(s8:∀ x w w1,X w w1->P8 x w->P8 x w1:=by exact fun _ _ _ _ h=>h)(s9:∀ x w w1,X w w1->P9 x w->P9 x w1:=by exact fun _ _ _ _ h=>h)(s10:∀ x w w1,X w w1->P10 x w->P10 x w1:=by exact fun _ _ _ _ h=>h)(s11:∀ x w w1,X w w1->P11 x w->P11 x w1:=by exact fun _ _ _ _ h=>h):∃ E:Nat->Value->World->Prop,Hid (∀ j x w w1,X w w1->E j x w->E j x w1)/\Hid (∀ x w,E 0 x w=P0 x w)/\Hid (∀ x w,E 1 x w=P1 x w)/\Hid (∀ x w,E 2 x w=P2 x w)/\Hid (∀ x w,E 3 x w=P3 x w)/\Hid (∀ x w,E 4 x w=P4 x w)/\Hid (∀ x w,E 5 x w=P5 x w)/\Hid (∀ x w,E 6 x w=P6 x w)/\Hid (∀ x w,E 7 x w=P7 x w)/\Hid (∀ x w,E 8 x w=P8 x w)/\Hid (∀ x w,E 9 x w=P9 x w)/\Hid (∀ x w,E 10 x w=P10 x w)/\Hid (∀ x w,E 11 x w=P11 x w) :=
 ⟨fun j=>match j with | 0=>P0 | 1=>P1 | 2=>P2 | 3=>P3 | 4=>P4 | 5=>P5 | 6=>P6 | 7=>P7 | 8=>P8 | 9=>P9 | 10=>P10 | 11=>P11 | _=>fun _ _=>True,ab fun j=>match j with | 0=>s0 | 1=>s1 | 2=>s2 | 3=>s3 | 4=>s4 | 5=>s5 | 6=>s6 | 7=>s7 | 8=>s8 | 9=>s9 | 10=>s10 | 11=>s11 | _+12=>fun _ _ _ _ h=>h,ab fun _ _=>rfl,ab fun _ _=>rfl,ab fun _ _=>rfl,ab fun _ _=>rfl,ab fun _ _=>rfl,ab fun _ _=>rfl,ab fun _ _=>rfl,ab fun _ _=>rfl,ab fun _ _=>rfl,ab fun _ _=>rfl,ab fun _ _=>rfl,ab fun _ _=>rfl⟩
theorem e16(X:World->World->Prop)(P0 P1 P2 P3 P4 P5 P6 P7 P8 P9 P10 P11 P12 P13 P14 P15:Value->World->Prop)(s0:∀ x w w1,X w w1->P0 x w->P0 x w1:=by exact fun _ _ _ _ h=>h)(s1:∀ x w w1,X w w1->P1 x w->P1 x w1:=by exact fun _ _ _ _ h=>h)(s2:∀ x w w1,X w w1->P2 x w->P2 x w1:=by exact fun _ _ _ _ h=>h)(s3:∀ x w w1,X w w1->P3 x w->P3 x w1:=by exact fun _ _ _ _ h=>h)(s4:∀ x w w1,X w w1->P4 x w->P4 x w1:=by exact fun _ _ _ _ h=>h)(s5:∀ x w w1,X w w1->P5 x w->P5 x w1:=by exact fun _ _ _ _ h=>h)(s6:∀ x w w1,X w w1->P6 x w->P6 x w1:=by exact fun _ _ _ _ h=>h)(s7:∀ x w w1,X w w1->P7 x w->P7 x w1:=by exact fun _ _ _ _ h=>h)(s8:∀ x w w1,X w w1->P8 x w->P8 x w1:=by exact fun _ _ _ _ h=>h)(s9:∀ x w w1,X w w1->P9 x w->P9 x w1:=by exact fun _ _ _ _ h=>h)(s10:∀ x w w1,X w w1->P10 x w->P10 x w1:=by exact fun _ _ _ _ h=>h)(s11:∀ x w w1,X w w1->P11 x w->P11 x w1:=by exact fun _ _ _ _ h=>h)(s12:∀ x w w1,X w w1->P12 x w->P12 x w1:=by exact fun _ _ _ _ h=>h)(s13:∀ x w w1,X w w1->P13 x w->P13 x w1:=by exact fun _ _ _ _ h=>h)(s14:∀ x w w1,X w w1->P14 x w->P14 x w1:=by exact fun _ _ _ _ h=>h)(s15:∀ x w w1,X w w1->P15 x w->P15 x w1:=by exact fun _ _ _ _ h=>h):∃ E:Nat->Value->World->Prop,Hid (∀ j x w w1,X w w1->E j x w->E j x w1)/\Hid (∀ x w,E 0 x w=P0 x w)/\Hid (∀ x w,E 1 x w=P1 x w)/\Hid (∀ x w,E 2 x w=P2 x w)/\Hid (∀ x w,E 3 x w=P3 x w)/\Hid (∀ x w,E 4 x w=P4 x w)/\Hid (∀ x w,E 5 x w=P5 x w)/\Hid (∀ x w,E 6 x w=P6 x w)/\Hid (∀ x w,E 7 x w=P7 x w)/\Hid (∀ x w,E 8 x w=P8 x w)/\Hid (∀ x w,E 9 x w=P9 x w)/\Hid (∀ x w,E 10 x w=P10 x w)/\Hid (∀ x w,E 11 x w=P11 x w)/\Hid (∀ x w,E 12 x w=P12 x w)/\Hid (∀ x w,E 13 x w=P13 x w)/\Hid (∀ x w,E 14 x w=P14 x w)/\Hid (∀ x w,E 15 x w=P15 x w) :=
 ⟨fun j=>match j with | 0=>P0 | 1=>P1 | 2=>P2 | 3=>P3 | 4=>P4 | 5=>P5 | 6=>P6 | 7=>P7 | 8=>P8 | 9=>P9 | 10=>P10 | 11=>P11 | 12=>P12 | 13=>P13 | 14=>P14 | 15=>P15 | _=>fun _ _=>True,ab fun j=>match j with | 0=>s0 | 1=>s1 | 2=>s2 | 3=>s3 | 4=>s4 | 5=>s5 | 6=>s6 | 7=>s7 | 8=>s8 | 9=>s9 | 10=>s10 | 11=>s11 | 12=>s12 | 13=>s13 | 14=>s14 | 15=>s15 | _+16=>fun _ _ _ _ h=>h,ab fun _ _=>rfl,ab fun _ _=>rfl,ab fun _ _=>rfl,ab fun _ _=>rfl,ab fun _ _=>rfl,ab fun _ _=>rfl,ab fun _ _=>rfl,ab fun _ _=>rfl,ab fun _ _=>rfl,ab fun _ _=>rfl,ab fun _ _=>rfl,ab fun _ _=>rfl,ab fun _ _=>rfl,ab fun _ _=>rfl,ab fun _ _=>rfl,ab fun _ _=>rfl⟩
theorem e20(X:World->World->Prop)(P0 P1 P2 P3 P4 P5 P6 P7 P8 P9 P10 P11 P12 P13 P14 P15 P16 P17 P18 P19:Value->World->Prop)(s0:∀ x w w1,X w w1->P0 x w->P0 x w1:=by exact fun _ _ _ _ h=>h)(s1:∀ x w w1,X w w1->P1 x w->P1 x w1:=by exact fun _ _ _ _ h=>h)(s2:∀ x w w1,X w w1->P2 x w->P2 x w1:=by exact fun _ _ _ _ h=>h)(s3:∀ x w w1,X w w1->P3 x w->P3 x w1:=by exact fun _ _ _ _ h=>h)(s4:∀ x w w1,X w w1->P4 x w->P4 x w1:=by exact fun _ _ _ _ h=>h)(s5:∀ x w w1,X w w1->P5 x w->P5 x w1:=by exact fun _ _ _ _ h=>h)(s6:∀ x w w1,X w w1->P6 x w->P6 x w1:=by exact fun _ _ _ _ h=>h)(s7:∀ x w w1,X w w1->P7 x w->P7 x w1:=by exact fun _ _ _ _ h=>h)(s8:∀ x w w1,X w w1->P8 x w->P8 x w1:=by exact fun _ _ _ _ h=>h)(s9:∀ x w w1,X w w1->P9 x w->P9 x w1:=by exact fun _ _ _ _ h=>h)(s10:∀ x w w1,X w w1->P10 x w->P10 x w1:=by exact fun _ _ _ _ h=>h)(s11:∀ x w w1,X w w1->P11 x w->P11 x w1:=by exact fun _ _ _ _ h=>h)(s12:∀ x w w1,X w w1->P12 x w->P12 x w1:=by exact fun _ _ _ _ h=>h)(s13:∀ x w w1,X w w1->P13 x w->P13 x w1:=by exact fun _ _ _ _ h=>h)(s14:∀ x w w1,X w w1->P14 x w->P14 x w1:=by exact fun _ _ _ _ h=>h)(s15:∀ x w w1,X w w1->P15 x w->P15 x w1:=by exact fun _ _ _ _ h=>h)(s16:∀ x w w1,X w w1->P16 x w->P16 x w1:=by exact fun _ _ _ _ h=>h)(s17:∀ x w w1,X w w1->P17 x w->P17 x w1:=by exact fun _ _ _ _ h=>h)(s18:∀ x w w1,X w w1->P18 x w->P18 x w1:=by exact fun _ _ _ _ h=>h)(s19:∀ x w w1,X w w1->P19 x w->P19 x w1:=by exact fun _ _ _ _ h=>h):∃ E:Nat->Value->World->Prop,Hid (∀ j x w w1,X w w1->E j x w->E j x w1)/\Hid (∀ x w,E 0 x w=P0 x w)/\Hid (∀ x w,E 1 x w=P1 x w)/\Hid (∀ x w,E 2 x w=P2 x w)/\Hid (∀ x w,E 3 x w=P3 x w)/\Hid (∀ x w,E 4 x w=P4 x w)/\Hid (∀ x w,E 5 x w=P5 x w)/\Hid (∀ x w,E 6 x w=P6 x w)/\Hid (∀ x w,E 7 x w=P7 x w)/\Hid (∀ x w,E 8 x w=P8 x w)/\Hid (∀ x w,E 9 x w=P9 x w)/\Hid (∀ x w,E 10 x w=P10 x w)/\Hid (∀ x w,E 11 x w=P11 x w)/\Hid (∀ x w,E 12 x w=P12 x w)/\Hid (∀ x w,E 13 x w=P13 x w)/\Hid (∀ x w,E 14 x w=P14 x w)/\Hid (∀ x w,E 15 x w=P15 x w)/\Hid (∀ x w,E 16 x w=P16 x w)/\Hid (∀ x w,E 17 x w=P17 x w)/\Hid (∀ x w,E 18 x w=P18 x w)/\Hid (∀ x w,E 19 x w=P19 x w) :=
 ⟨fun j=>match j with | 0=>P0 | 1=>P1 | 2=>P2 | 3=>P3 | 4=>P4 | 5=>P5 | 6=>P6 | 7=>P7 | 8=>P8 | 9=>P9 | 10=>P10 | 11=>P11 | 12=>P12 | 13=>P13 | 14=>P14 | 15=>P15 | 16=>P16 | 17=>P17 | 18=>P18 | 19=>P19 | _=>fun _ _=>True,ab fun j=>match j with | 0=>s0 | 1=>s1 | 2=>s2 | 3=>s3 | 4=>s4 | 5=>s5 | 6=>s6 | 7=>s7 | 8=>s8 | 9=>s9 | 10=>s10 | 11=>s11 | 12=>s12 | 13=>s13 | 14=>s14 | 15=>s15 | 16=>s16 | 17=>s17 | 18=>s18 | 19=>s19 | _+20=>fun _ _ _ _ h=>h,ab fun _ _=>rfl,ab fun _ _=>rfl,ab fun _ _=>rfl,ab fun _ _=>rfl,ab fun _ _=>rfl,ab fun _ _=>rfl,ab fun _ _=>rfl,ab fun _ _=>rfl,ab fun _ _=>rfl,ab fun _ _=>rfl,ab fun _ _=>rfl,ab fun _ _=>rfl,ab fun _ _=>rfl,ab fun _ _=>rfl,ab fun _ _=>rfl,ab fun _ _=>rfl,ab fun _ _=>rfl,ab fun _ _=>rfl,ab fun _ _=>rfl,ab fun _ _=>rfl⟩
theorem e24(X:World->World->Prop)(P0 P1 P2 P3 P4 P5 P6 P7 P8 P9 P10 P11 P12 P13 P14 P15 P16 P17 P18 P19 P20 P21 P22 P23:Value->World->Prop)(s0:∀ x w w1,X w w1->P0 x w->P0 x w1:=by exact fun _ _ _ _ h=>h)(s1:∀ x w w1,X w w1->P1 x w->P1 x w1:=by exact fun _ _ _ _ h=>h)(s2:∀ x w w1,X w w1->P2 x w->P2 x w1:=by exact fun _ _ _ _ h=>h)(s3:∀ x w w1,X w w1->P3 x w->P3 x w1:=by exact fun _ _ _ _ h=>h)(s4:∀ x w w1,X w w1->P4 x w->P4 x w1:=by exact fun _ _ _ _ h=>h)(s5:∀ x w w1,X w w1->P5 x w->P5 x w1:=by exact fun _ _ _ _ h=>h)(s6:∀ x w w1,X w w1->P6 x w->P6 x w1:=by exact fun _ _ _ _ h=>h)(s7:∀ x w w1,X w w1->P7 x w->P7 x w1:=by exact fun _ _ _ _ h=>h)(s8:∀ x w w1,X w w1->P8 x w->P8 x w1:=by exact fun _ _ _ _ h=>h)(s9:∀ x w w1,X w w1->P9 x w->P9 x w1:=by exact fun _ _ _ _ h=>h)(s10:∀ x w w1,X w w1->P10 x w->P10 x w1:=by exact fun _ _ _ _ h=>h)(s11:∀ x w w1,X w w1->P11 x w->P11 x w1:=by exact fun _ _ _ _ h=>h)(s12:∀ x w w1,X w w1->P12 x w->P12 x w1:=by exact fun _ _ _ _ h=>h)(s13:∀ x w w1,X w w1->P13 x w->P13 x w1:=by exact fun _ _ _ _ h=>h)(s14:∀ x w w1,X w w1->P14 x w->P14 x w1:=by exact fun _ _ _ _ h=>h)(s15:∀ x w w1,X w w1->P15 x w->P15 x w1:=by exact fun _ _ _ _ h=>h)(s16:∀ x w w1,X w w1->P16 x w->P16 x w1:=by exact fun _ _ _ _ h=>h)(s17:∀ x w w1,X w w1->P17 x w->P17 x w1:=by exact fun _ _ _ _ h=>h)(s18:∀ x w w1,X w w1->P18 x w->P18 x w1:=by exact fun _ _ _ _ h=>h)(s19:∀ x w w1,X w w1->P19 x w->P19 x w1:=by exact fun _ _ _ _ h=>h)(s20:∀ x w w1,X w w1->P20 x w->P20 x w1:=by exact fun _ _ _ _ h=>h)(s21:∀ x w w1,X w w1->P21 x w->P21 x w1:=by exact fun _ _ _ _ h=>h)(s22:∀ x w w1,X w w1->P22 x w->P22 x w1:=by exact fun _ _ _ _ h=>h)(s23:∀ x w w1,X w w1->P23 x w->P23 x w1:=by exact fun _ _ _ _ h=>h):∃ E:Nat->Value->World->Prop,Hid (∀ j x w w1,X w w1->E j x w->E j x w1)/\Hid (∀ x w,E 0 x w=P0 x w)/\Hid (∀ x w,E 1 x w=P1 x w)/\Hid (∀ x w,E 2 x w=P2 x w)/\Hid (∀ x w,E 3 x w=P3 x w)/\Hid (∀ x w,E 4 x w=P4 x w)/\Hid (∀ x w,E 5 x w=P5 x w)/\Hid (∀ x w,E 6 x w=P6 x w)/\Hid (∀ x w,E 7 x w=P7 x w)/\Hid (∀ x w,E 8 x w=P8 x w)/\Hid (∀ x w,E 9 x w=P9 x w)/\Hid (∀ x w,E 10 x w=P10 x w)/\Hid (∀ x w,E 11 x w=P11 x w)/\Hid (∀ x w,E 12 x w=P12 x w)/\Hid (∀ x w,E 13 x w=P13 x w)/\Hid (∀ x w,E 14 x w=P14 x w)/\Hid (∀ x w,E 15 x w=P15 x w)/\Hid (∀ x w,E 16 x w=P16 x w)/\Hid (∀ x w,E 17 x w=P17 x w)/\Hid (∀ x w,E 18 x w=P18 x w)/\Hid (∀ x w,E 19 x w=P19 x w)/\Hid (∀ x w,E 20 x w=P20 x w)/\Hid (∀ x w,E 21 x w=P21 x w)/\Hid (∀ x w,E 22 x w=P22 x w)/\Hid (∀ x w,E 23 x w=P23 x w) :=
 ⟨fun j=>match j with | 0=>P0 | 1=>P1 | 2=>P2 | 3=>P3 | 4=>P4 | 5=>P5 | 6=>P6 | 7=>P7 | 8=>P8 | 9=>P9 | 10=>P10 | 11=>P11 | 12=>P12 | 13=>P13 | 14=>P14 | 15=>P15 | 16=>P16 | 17=>P17 | 18=>P18 | 19=>P19 | 20=>P20 | 21=>P21 | 22=>P22 | 23=>P23 | _=>fun _ _=>True,ab fun j=>match j with | 0=>s0 | 1=>s1 | 2=>s2 | 3=>s3 | 4=>s4 | 5=>s5 | 6=>s6 | 7=>s7 | 8=>s8 | 9=>s9 | 10=>s10 | 11=>s11 | 12=>s12 | 13=>s13 | 14=>s14 | 15=>s15 | 16=>s16 | 17=>s17 | 18=>s18 | 19=>s19 | 20=>s20 | 21=>s21 | 22=>s22 | 23=>s23 | _+24=>fun _ _ _ _ h=>h,ab fun _ _=>rfl,ab fun _ _=>rfl,ab fun _ _=>rfl,ab fun _ _=>rfl,ab fun _ _=>rfl,ab fun _ _=>rfl,ab fun _ _=>rfl,ab fun _ _=>rfl,ab fun _ _=>rfl,ab fun _ _=>rfl,ab fun _ _=>rfl,ab fun _ _=>rfl,ab fun _ _=>rfl,ab fun _ _=>rfl,ab fun _ _=>rfl,ab fun _ _=>rfl,ab fun _ _=>rfl,ab fun _ _=>rfl,ab fun _ _=>rfl,ab fun _ _=>rfl,ab fun _ _=>rfl,ab fun _ _=>rfl,ab fun _ _=>rfl,ab fun _ _=>rfl⟩
theorem e32(X:World->World->Prop)(P0 P1 P2 P3 P4 P5 P6 P7 P8 P9 P10 P11 P12 P13 P14 P15 P16 P17 P18 P19 P20 P21 P22 P23 P24 P25 P26 P27 P28 P29 P30 P31:Value->World->Prop)(s0:∀ x w w1,X w w1->P0 x w->P0 x w1:=by exact fun _ _ _ _ h=>h)(s1:∀ x w w1,X w w1->P1 x w->P1 x w1:=by exact fun _ _ _ _ h=>h)(s2:∀ x w w1,X w w1->P2 x w->P2 x w1:=by exact fun _ _ _ _ h=>h)(s3:∀ x w w1,X w w1->P3 x w->P3 x w1:=by exact fun _ _ _ _ h=>h)(s4:∀ x w w1,X w w1->P4 x w->P4 x w1:=by exact fun _ _ _ _ h=>h)(s5:∀ x w w1,X w w1->P5 x w->P5 x w1:=by exact fun _ _ _ _ h=>h)(s6:∀ x w w1,X w w1->P6 x w->P6 x w1:=by exact fun _ _ _ _ h=>h)(s7:∀ x w w1,X w w1->P7 x w->P7 x w1:=by exact fun _ _ _ _ h=>h)(s8:∀ x w w1,X w w1->P8 x w->P8 x w1:=by exact fun _ _ _ _ h=>h)(s9:∀ x w w1,X w w1->P9 x w->P9 x w1:=by exact fun _ _ _ _ h=>h)(s10:∀ x w w1,X w w1->P10 x w->P10 x w1:=by exact fun _ _ _ _ h=>h)(s11:∀ x w w1,X w w1->P11 x w->P11 x w1:=by exact fun _ _ _ _ h=>h)(s12:∀ x w w1,X w w1->P12 x w->P12 x w1:=by exact fun _ _ _ _ h=>h)(s13:∀ x w w1,X w w1->P13 x w->P13 x w1:=by exact fun _ _ _ _ h=>h)(s14:∀ x w w1,X w w1->P14 x w->P14 x w1:=by exact fun _ _ _ _ h=>h)(s15:∀ x w w1,X w w1->P15 x w->P15 x w1:=by exact fun _ _ _ _ h=>h)(s16:∀ x w w1,X w w1->P16 x w->P16 x w1:=by exact fun _ _ _ _ h=>h)(s17:∀ x w w1,X w w1->P17 x w->P17 x w1:=by exact fun _ _ _ _ h=>h)(s18:∀ x w w1,X w w1->P18 x w->P18 x w1:=by exact fun _ _ _ _ h=>h)(s19:∀ x w w1,X w w1->P19 x w->P19 x w1:=by exact fun _ _ _ _ h=>h)(s20:∀ x w w1,X w w1->P20 x w->P20 x w1:=by exact fun _ _ _ _ h=>h)(s21:∀ x w w1,X w w1->P21 x w->P21 x w1:=by exact fun _ _ _ _ h=>h)(s22:∀ x w w1,X w w1->P22 x w->P22 x w1:=by exact fun _ _ _ _ h=>h)(s23:∀ x w w1,X w w1->P23 x w->P23 x w1:=by exact fun _ _ _ _ h=>h)(s24:∀ x w w1,X w w1->P24 x w->P24 x w1:=by exact fun _ _ _ _ h=>h)(s25:∀ x w w1,X w w1->P25 x w->P25 x w1:=by exact fun _ _ _ _ h=>h)(s26:∀ x w w1,X w w1->P26 x w->P26 x w1:=by exact fun _ _ _ _ h=>h)(s27:∀ x w w1,X w w1->P27 x w->P27 x w1:=by exact fun _ _ _ _ h=>h)(s28:∀ x w w1,X w w1->P28 x w->P28 x w1:=by exact fun _ _ _ _ h=>h)(s29:∀ x w w1,X w w1->P29 x w->P29 x w1:=by exact fun _ _ _ _ h=>h)(s30:∀ x w w1,X w w1->P30 x w->P30 x w1:=by exact fun _ _ _ _ h=>h)(s31:∀ x w w1,X w w1->P31 x w->P31 x w1:=by exact fun _ _ _ _ h=>h):∃ E:Nat->Value->World->Prop,Hid (∀ j x w w1,X w w1->E j x w->E j x w1)/\Hid (∀ x w,E 0 x w=P0 x w)/\Hid (∀ x w,E 1 x w=P1 x w)/\Hid (∀ x w,E 2 x w=P2 x w)/\Hid (∀ x w,E 3 x w=P3 x w)/\Hid (∀ x w,E 4 x w=P4 x w)/\Hid (∀ x w,E 5 x w=P5 x w)/\Hid (∀ x w,E 6 x w=P6 x w)/\Hid (∀ x w,E 7 x w=P7 x w)/\Hid (∀ x w,E 8 x w=P8 x w)/\Hid (∀ x w,E 9 x w=P9 x w)/\Hid (∀ x w,E 10 x w=P10 x w)/\Hid (∀ x w,E 11 x w=P11 x w)/\Hid (∀ x w,E 12 x w=P12 x w)/\Hid (∀ x w,E 13 x w=P13 x w)/\Hid (∀ x w,E 14 x w=P14 x w)/\Hid (∀ x w,E 15 x w=P15 x w)/\Hid (∀ x w,E 16 x w=P16 x w)/\Hid (∀ x w,E 17 x w=P17 x w)/\Hid (∀ x w,E 18 x w=P18 x w)/\Hid (∀ x w,E 19 x w=P19 x w)/\Hid (∀ x w,E 20 x w=P20 x w)/\Hid (∀ x w,E 21 x w=P21 x w)/\Hid (∀ x w,E 22 x w=P22 x w)/\Hid (∀ x w,E 23 x w=P23 x w)/\Hid (∀ x w,E 24 x w=P24 x w)/\Hid (∀ x w,E 25 x w=P25 x w)/\Hid (∀ x w,E 26 x w=P26 x w)/\Hid (∀ x w,E 27 x w=P27 x w)/\Hid (∀ x w,E 28 x w=P28 x w)/\Hid (∀ x w,E 29 x w=P29 x w)/\Hid (∀ x w,E 30 x w=P30 x w)/\Hid (∀ x w,E 31 x w=P31 x w) :=
 ⟨fun j=>match j with | 0=>P0 | 1=>P1 | 2=>P2 | 3=>P3 | 4=>P4 | 5=>P5 | 6=>P6 | 7=>P7 | 8=>P8 | 9=>P9 | 10=>P10 | 11=>P11 | 12=>P12 | 13=>P13 | 14=>P14 | 15=>P15 | 16=>P16 | 17=>P17 | 18=>P18 | 19=>P19 | 20=>P20 | 21=>P21 | 22=>P22 | 23=>P23 | 24=>P24 | 25=>P25 | 26=>P26 | 27=>P27 | 28=>P28 | 29=>P29 | 30=>P30 | 31=>P31 | _=>fun _ _=>True,ab fun j=>match j with | 0=>s0 | 1=>s1 | 2=>s2 | 3=>s3 | 4=>s4 | 5=>s5 | 6=>s6 | 7=>s7 | 8=>s8 | 9=>s9 | 10=>s10 | 11=>s11 | 12=>s12 | 13=>s13 | 14=>s14 | 15=>s15 | 16=>s16 | 17=>s17 | 18=>s18 | 19=>s19 | 20=>s20 | 21=>s21 | 22=>s22 | 23=>s23 | 24=>s24 | 25=>s25 | 26=>s26 | 27=>s27 | 28=>s28 | 29=>s29 | 30=>s30 | 31=>s31 | _+32=>fun _ _ _ _ h=>h,ab fun _ _=>rfl,ab fun _ _=>rfl,ab fun _ _=>rfl,ab fun _ _=>rfl,ab fun _ _=>rfl,ab fun _ _=>rfl,ab fun _ _=>rfl,ab fun _ _=>rfl,ab fun _ _=>rfl,ab fun _ _=>rfl,ab fun _ _=>rfl,ab fun _ _=>rfl,ab fun _ _=>rfl,ab fun _ _=>rfl,ab fun _ _=>rfl,ab fun _ _=>rfl,ab fun _ _=>rfl,ab fun _ _=>rfl,ab fun _ _=>rfl,ab fun _ _=>rfl,ab fun _ _=>rfl,ab fun _ _=>rfl,ab fun _ _=>rfl,ab fun _ _=>rfl,ab fun _ _=>rfl,ab fun _ _=>rfl,ab fun _ _=>rfl,ab fun _ _=>rfl,ab fun _ _=>rfl,ab fun _ _=>rfl,ab fun _ _=>rfl,ab fun _ _=>rfl⟩
theorem xB:∃ X:World->World->Prop,X=(fun x y=>Below x.heap.size x y)/\Hid (∀ w,X w w)/\Hid (∀ w w1,Below w.heap.size w w1->X w w1):=⟨_,rfl,ab fun w=>Below.refl _ _,ab fun _ _ h=>h⟩
theorem xT:∃ X:World->World->Prop,X=(fun _ _=>True)/\Hid (∀ w,X w w)/\Hid (∀ w w1,Below w.heap.size w w1->X w w1):=⟨_,rfl,ab fun _=>trivial,ab fun _ _ _=>trivial⟩
theorem hk{a b c:Prop}(x:a)(y:b)(z:c):Hid (a/\b/\c):=ab ⟨x,y,z⟩
theorem go{P:Program}{Post:Value->World->Prop}{r:Result Next}{a:Bool}{B:Prop}(h:a=true)(k:upon P Post r):(a=true/\upon P Post r)\/B:=.inl ⟨h,k⟩
end Reg
end
section
namespace RegC
open Reg (upon upd Closed reach frame dsts dz fj dP dv lJ js j7 lK iP)
structure Plan where
 F:(Nat->Value)->Act
 E:Nat->Value->World->Prop
 C:Array Bool->(Nat->Value)->World->Prop
 Ext:Nat->World->World->Prop
structure Here (p:Plan) (l:List Oper) (xs0:Nat->Value) (i:Nat) (L:Array Bool) (w:World) (xs:Nat->Value):Prop where
 size:L.size=l.length
 closed:Closed l L
 ready:i ∈ Region.ready .any l.toArray L
 cls:p.C L xs w
 vals:∀ j,j<l.length->L.getD j false=true->p.E j (xs j) w
 olds:∀ j,L.getD j false=false->xs j=xs0 j
theorem Here.dep{p:Plan}{l:List Oper}{xs0:Nat->Value}{i:Nat}{L:Array Bool}{w:World}{xs:Nat->Value}(h:Here p l xs0 i L w xs)(j:Nat)(hj:reach l.toArray 6 i j=true):L.getD j false=true:=by
 obtain ⟨_,o,ho,hall⟩:=mem_ready.1 h.ready;unfold reach at hj;rw [Bool.or_eq_true] at hj
 rcases hj with hj | hj
 ·obtain ⟨o',C3,e,he,hb,JI⟩:=Region.waitsFor_spec hj;obtain rfl:o=o':=Option.some.inj (ho.symm.trans C3);rw [<-JI];exact hall e he hb
 ·rw [ho] at hj;obtain ⟨e,he,hb⟩:=Array.any_eq_true'.1 hj;rw [Bool.and_eq_true] at hb;exact h.closed.reach 5 e.on j (hall e he hb.1) hb.2
theorem Here.val{p:Plan}{l:List Oper}{xs0:Nat->Value}{i:Nat}{L:Array Bool}{w:World}{xs:Nat->Value}(h:Here p l xs0 i L w xs)(j:Nat)(hj:reach l.toArray 6 i j=true)(hl:decide (j<l.length)=true):p.E j (xs j) w :=
 h.vals j (of_decide_eq_true hl) (h.dep j hj)
theorem Here.un{p:Plan}{l:List Oper}{xs0:Nat->Value}{i:Nat}{L:Array Bool}{w:World}{xs:Nat->Value}(h:Here p l xs0 i L w xs):Mix.one L i=0:=Mix.one_ready h.ready
theorem Here.isDone{p:Plan}{l:List Oper}{xs0:Nat->Value}{i:Nat}{L:Array Bool}{w:World}{xs:Nat->Value}(h:Here p l xs0 i L w xs)(j:Nat)(hj:reach l.toArray 6 i j=true):Mix.one L j=1:=by
 unfold Mix.one;rw [if_pos (h.dep j hj)]
theorem Here.v{p:Plan}{l:List Oper}{xs0:Nat->Value}{i:Nat}{L:Array Bool}{w:World}{xs:Nat->Value}(h:Here p l xs0 i L w xs)(j:Nat)(hj:reach l.toArray 6 i j=true:=by kernel_rfl)(hl:decide (j<l.length)=true:=by kernel_rfl):p.E j (xs j) w:=h.val j hj hl
theorem Here.notYet{p:Plan}{l:List Oper}{xs0:Nat->Value}{i:Nat}{L:Array Bool}{w:World}{xs:Nat->Value}(h:Here p l xs0 i L w xs)(j:Nat)(hj:reach l.toArray 6 j i=true):L.getD j false=false:=by
 cases hl:L.getD j false with
 |false=>rfl
 |true =>
  have h1:=h.closed.reach 6 j i hl hj;have h2:=(mem_ready.1 h.ready).1;obtain ⟨o',C3,_⟩:=(mem_ready.1 h.ready).2;have hlt:i<l.length:=by simpa using (Array.getElem?_eq_some_iff.1 C3).1
  rw [ez (by rw [h.size];exact hlt),h2] at h1
  cases h1
theorem Here.old{p:Plan}{l:List Oper}{xs0:Nat->Value}{i:Nat}{L:Array Bool}{w:World}{xs:Nat->Value}(h:Here p l xs0 i L w xs)(j:Nat)(hj:reach l.toArray 6 j i=true):xs j=xs0 j:=h.olds j (h.notYet j hj)
def Step(P:Program)(p:Plan)(l:List Oper)(xs0:Nat->Value)(i:Nat)(o:Oper):Prop :=
 ∀ L w xs,Here p l xs0 i L w xs ->
  (Region.wanted o (yielded l.toArray (p.F xs).tmps)=true/\upon P (fun v w'=>p.C (L.setIfInBounds i true) (upd xs i v) w'/\p.E i v w'/\p.Ext i w w') ((execOp (p.F xs).eval o).run P w)) \/
  (Region.wanted o (yielded l.toArray (p.F xs).tmps)=false/\p.C (L.setIfInBounds i true) (upd xs i undef) w/\p.E i undef w)
def Steps(P:Program)(p:Plan)(l:List Oper)(xs0:Nat->Value):List Oper->Nat->Prop
 | [],_=>True
 | o :: rest,i=>Step P p l xs0 i o/\Steps P p l xs0 rest (i+1)
def Puts(p:Plan):List Oper->Nat->Prop
 | [],_=>True
 | o :: rest,i=>(∀ xs v,(p.F xs).put o.dst v=p.F (upd xs i v))/\Puts p rest (i+1)
theorem puts_at{p:Plan}:∀ (m:List Oper) (k:Nat),Puts p m k->∀ j o,m[j]? = some o->∀ xs v,(p.F xs).put o.dst v=p.F (upd xs (k+j) v)
 |[],_,_,j,o,h=>by simp at h
 |q :: m,k,hs,j,o,h=>by
  cases j with
  |zero=>simp at h;subst h;exact hs.1
  |succ j =>
   have:=puts_at m (k+1) hs.2 j o (by simpa using h)
   rwa [show k+1+j=k+(j+1) by omega] at this
theorem steps_at{P:Program}{p:Plan}{l:List Oper}{xs0:Nat->Value}:∀ (m:List Oper) (k:Nat),Steps P p l xs0 m k->∀ j o,m[j]? = some o->Step P p l xs0 (k+j) o
 |[],_,_,j,o,h=>by simp at h
 |q :: m,k,hs,j,o,h=>by
  cases j with
  |zero=>simp at h;subst h;exact hs.1
  |succ j =>
   have:=steps_at m (k+1) hs.2 j o (by simpa using h)
   rwa [show k+1+j=k+(j+1) by omega] at this
section
variable {P : Program} {l : List Oper} {p : Plan} {xs0 : Nat → Value}
def Inv(p:Plan)(l:List Oper)(xs0:Nat->Value)(L:Array Bool)(a:Act)(w:World):Prop:=∃ xs,a=p.F xs/\L.size=l.length/\Closed l L/\p.C L xs w/\(∀ j,j<l.length->L.getD j false=true->p.E j (xs j) w)/\∀ j,L.getD j false=false->xs j=xs0 j
theorem Inv.next{L:Array Bool}{w w':World}{xs:Nat->Value}{i:Nat}{o:Oper}{v:Value}(hput:∀ i o,l[i]? = some o->∀ xs v,(p.F xs).put o.dst v=p.F (upd xs i v))(ho:l[i]? = some o)(hs:L.size=l.length)(hc:Closed l (L.setIfInBounds i true))
  (hv:∀ j,j<l.length->L.getD j false=true->p.E j (xs j) w) (hold:∀ j,L.getD j false=false->xs j=xs0 j) (hC:p.C (L.setIfInBounds i true) (upd xs i v) w') (hE:p.E i v w') (hx:∀ j,j≠i->L.getD j false=true->p.E j (xs j) w->p.E j (xs j) w'):Inv p l xs0 (L.setIfInBounds i true) ((p.F xs).put o.dst v) w':=by
 refine ⟨upd xs i v,hput i o ho xs v,by simpa using hs,hc,hC,fun j hj hl=>?_,fun j hl=>?_⟩
 ·unfold upd
  by_cases h:j=i
  ·subst h;rw [if_pos rfl];exact hE
  ·rw [if_neg h];rw [getD_set_ne false (Ne.symm h)] at hl;exact hx j h hl (hv j hj hl)
 ·unfold upd
  by_cases h:j=i
  ·subst h;have hlt:j<L.size:=by rw [hs];exact (List.getElem?_eq_some_iff.1 ho).1
   rw [Array.getD_eq_getD_getElem?,Array.getElem?_setIfInBounds_self_of_lt hlt] at hl
   cases hl
  ·rw [if_neg h];rw [getD_set_ne false (Ne.symm h)] at hl;exact hold j hl
theorem wpOp_of{L:Array Bool}{a:Act}{w:World}{i:Nat}{K':Act->World->Prop}{Q':Exit->Act->World->Prop}(hput:∀ i o,l[i]? = some o->∀ xs v,(p.F xs).put o.dst v=p.F (upd xs i v))(Do:∀ i j x w w',j≠i->reach l.toArray 6 j i=false->p.Ext i w w'->p.E j x w->p.E j x w')(hst:Steps P p l xs0 l 0)(hI:Inv p l xs0 L a w)(hr:i ∈ Region.ready .any l.toArray L)
  (h:∀ a' w',Inv p l xs0 (L.setIfInBounds i true) a' w'->K' a' w'):wpOp P l.toArray Q' i K' a w:=by
 obtain ⟨xs,rfl,hs,DU,hC,hv,hold⟩:=hI;have IN:=DU.next hr;obtain ⟨_,o,ho,_⟩:=mem_ready.1 hr;have C3:l[i]? = some o:=by simpa using ho
 have ET:∀ {w':World},p.Ext i w w'->∀ j,j≠i->L.getD j false=true->p.E j (xs j) w->p.E j (xs j) w':=fun hx j E8 hl hE=>by
  cases hre:reach l.toArray 6 j i with
  |false=>exact Do i j _ _ _ E8 hre hx hE
  |true =>
   have h1:=DU.reach 6 j i hl hre;have h2:=(mem_ready.1 hr).1;have hlt:i<l.length:=(List.getElem?_eq_some_iff.1 C3).1;rw [ez (by rw [hs];exact hlt),h2] at h1
   cases h1
 have hstep:=steps_at l 0 hst i o C3;rw [Nat.zero_add] at hstep;unfold wpOp;simp only [ho]
 rcases hstep L w xs ⟨hs,DU,hr,hC,hv,hold⟩ with ⟨hw,hu⟩ | ⟨hw,Kw,hE⟩
 ·rw [if_pos hw];refine .inl ?_;unfold Oper.wp;generalize (execOp (p.F xs).eval o).run P w=r at *
  cases r with
  |halt x w'=>exact hu.elim
  |ok n w' =>
   cases n <;> simp only [upon] at hu <;> simp only [Oper.upon]
   case value u =>
    obtain ⟨h1,h2,h3⟩:=hu;exact h _ _ (Inv.next hput C3 hs IN hv hold h1 h2 (ET h3))
   case skip =>
    obtain ⟨h1,h2,h3⟩:=hu;exact h _ _ (Inv.next hput C3 hs IN hv hold h1 h2 (ET h3))
   case enter f args =>
    exact hu.mono fun e w'' ⟨v,he,h1,h2,h3⟩=>by
     subst he;exact h _ _ (Inv.next hput C3 hs IN hv hold h1 h2 (ET h3))
 ·rw [if_neg (by rw [hw];exact Bool.false_ne_true)];exact h _ _ (Inv.next hput C3 hs IN hv hold Kw hE fun _ _ _ h=>h)
theorem any_of{Q':Exit->Act->World->Prop}(BB:fT (l++[default]) l.length=true)(hput:∀ i o,l[i]? = some o->∀ xs v,(p.F xs).put o.dst v=p.F (upd xs i v))(Do:∀ i j x w w',j≠i->reach l.toArray 6 j i=false->p.Ext i w w'->p.E j x w->p.E j x w')(hst:Steps P p l xs0 l 0)(hQ:∀ a w,Inv p l xs0 (Array.replicate l.length true) a w->Q' .normal a w) :
  ∀ (f:Nat) (L:Array Bool) (a:Act) (w:World),L.size=l.length->Inv p l xs0 L a w->de l.length L=f->wpAny P .any l.toArray Q' f L a w:=by
 have hend:∀ (L:Array Bool) a w,L.size=l.length->Region.ready .any l.toArray L=[]->Inv p l xs0 L a w->Q' .normal a w:=by
  intro L a w hs hr hI;rw [Mix.all_listed BB hs hr] at hI;exact hQ a w hI
 intro f
 induction f with
 |zero =>
  intro L a w hs hI hu;have hr:Region.ready .any l.toArray L=[]:=by
   cases hc:Region.ready .any l.toArray L with
   |nil=>rfl
   |cons i t =>
    have hi:i ∈ Region.ready .any l.toArray L:=by rw [hc];simp
    obtain ⟨h0,o,ho,_⟩:=mem_ready.1 hi;have hlt:i<l.length:=by simpa using (Array.getElem?_eq_some_iff.1 ho).1
    have:=es hu i hlt;rw [this] at h0
    cases h0
  exact ⟨hr,hend L a w hs hr hI⟩
 |succ f ih =>
  intro L a w hs hI hu;refine ⟨fun hr=>hend L a w hs hr hI,fun i hi=>wpOp_of hput Do hst hI hi fun a' w' hI'=>ih _ a' w' (by simpa using hs) hI' ?_⟩;obtain ⟨h0,o,ho,_⟩:=mem_ready.1 hi;have hlt:i<l.length:=by simpa using (Array.getElem?_eq_some_iff.1 ho).1
  have:=eR hs hlt h0;omega
theorem region{id:Nat}{Q:Exit->Act->World->Prop}{a:Act}{w:World}(p:Plan)(xs0:Nat->Value)(hm:P.follows .mixedOrders=true)(BB:fT (l++[default]) l.length=true)(h0:a=p.F xs0)(hC:p.C (Array.replicate l.length false) xs0 { w with drawn:=w.drawn+1 })
  (Gu:Puts p l 0) (Do:∀ i j x w w',j≠i->reach l.toArray 6 j i=false->p.Ext i w w'->p.E j x w->p.E j x w') (hst:Steps P p l xs0 l 0)
  (hend:∀ xs w',p.C (Array.replicate l.length true) xs w'->(∀ j,j<l.length->p.E j (xs j) w')->Q .normal (p.F xs) w'):(Code.region id l.toArray true).wp P Q a w:=by
 refine wp_region_any hm ?_;have hput:∀ i o,l[i]? = some o->∀ xs v,(p.F xs).put o.dst v=p.F (upd xs i v):=fun i o ho=>by
  have:=puts_at l 0 Gu i o ho
  rwa [Nat.zero_add] at this
 have:=any_of (Q':=Q) BB hput Do hst (fun a w ⟨xs,e,_,_,hC,hv,_⟩=>by
  subst e;refine hend xs w hC fun j hj=>hv j hj ?_
  rw [Array.getD_eq_getD_getElem?,Array.getElem?_replicate,if_pos hj]
  rfl) l.length (Array.replicate l.length false) a { w with drawn:=w.drawn+1 } (by simp) ⟨xs0,h0,by simp,Closed.start _ _,hC,fun j hj hl=>(by rw [getD_replicate_false] at hl;cases hl),fun j _=>rfl⟩ (dv _)
 simpa using this
theorem puts_of{p:Plan}:∀ (m:List Oper) (k:Nat),(∀ j d,(dsts m)[j]? = some d->∀ xs v,(p.F xs).put d v=p.F (upd xs (k+j) v))->Puts p m k
 | [],_,_=>trivial
 | o :: m,k,h=>⟨fun xs v=>h 0 o.dst (by simp [dsts]) xs v,puts_of m (k+1) fun j d hd xs v=>by
  have:=h (j+1) d (by simpa [dsts] using hd) xs v
  rwa [show k+(j+1)=k+1+j by omega] at this⟩
theorem regionF{id:Nat}{Q:Exit->Act->World->Prop}{a:Act}{w:World}(m:Nat)(E:Nat->Value->World->Prop)(C:Array Bool->Value->World->Prop)(X:World->World->Prop)(st:∀ j x w w',X w w'->E j x w->E j x w')
  (hm:P.follows .mixedOrders=true) (BB:fT (l++[default]) l.length=true) (hap:dz (dsts l)=true) (hC:∀ x,C (Array.replicate l.length false) x { w with drawn:=w.drawn+1 })
  (H:∀ (F:(Nat->Value)->Act),(∀ xs,F xs=frame xs (dsts l) 0 a)->Steps P ⟨F,E,fun L xs w=>C L (xs m) w,fun _=>X⟩ l (fun i=>match (dsts l)[i]? with | some (some d)=>a.tmps.getD d undef | _=>undef) l 0 /\
   (∀ xs w',C (Array.replicate l.length true) (xs m) w'->(∀ j,j<l.length->E j (xs j) w')->Q .normal (F xs) w')):(Code.region id l.toArray true).wp P Q a w:=by
 obtain ⟨h1,h2⟩:=H (fun xs=>frame xs (dsts l) 0 a) (fun _=>rfl);refine region ⟨fun xs=>frame xs (dsts l) 0 a,E,fun L xs w=>C L (xs m) w,fun _=>X⟩ _ hm BB (dP a hap) (hC _) (puts_of l 0 fun j d hd xs v=>?_) (fun i j x w w' _ _ hx h=>st j x w w' hx h) h1 h2;have:=fj xs v (dsts l) 0 a hap j d hd
 simpa using this
end
end RegC
end
section
namespace Reg
def zd(l:List Oper):Bool:=l.all fun o=>match o.op with | .defer _=>false | _=>true
section
variable {P : Program} {l : List Oper} {p : Plan} {xs0 : Nat → Value} {F : Fence} {n : Nat}
end
end Reg
end
section
namespace RegX
open Reg (upon upd Closed reach frame dsts dz fj dP dv lJ js j7 lK iP)
structure Plan where
 F:(Nat->Value)->Act
 E:Nat->Value->World->Prop
 C:Array Bool->World->Prop
 Ext:Nat->World->World->Prop
structure Here (p:Plan) (l:List Oper) (xs0:Nat->Value) (i:Nat) (L:Array Bool) (w:World) (xs:Nat->Value):Prop where
 size:L.size=l.length
 closed:Closed l L
 ready:i ∈ Region.ready .any l.toArray L
 cls:p.C L w
 vals:∀ j,j<l.length->L.getD j false=true->p.E j (xs j) w
 olds:∀ j,L.getD j false=false->xs j=xs0 j
theorem Here.dep{p:Plan}{l:List Oper}{xs0:Nat->Value}{i:Nat}{L:Array Bool}{w:World}{xs:Nat->Value}(h:Here p l xs0 i L w xs)(j:Nat)(hj:reach l.toArray 6 i j=true):L.getD j false=true:=by
 obtain ⟨_,o,ho,hall⟩:=mem_ready.1 h.ready;unfold reach at hj;rw [Bool.or_eq_true] at hj
 rcases hj with hj | hj
 ·obtain ⟨o',C3,e,he,hb,JI⟩:=Region.waitsFor_spec hj;obtain rfl:o=o':=Option.some.inj (ho.symm.trans C3);rw [<-JI];exact hall e he hb
 ·rw [ho] at hj;obtain ⟨e,he,hb⟩:=Array.any_eq_true'.1 hj;rw [Bool.and_eq_true] at hb;exact h.closed.reach 5 e.on j (hall e he hb.1) hb.2
theorem Here.val{p:Plan}{l:List Oper}{xs0:Nat->Value}{i:Nat}{L:Array Bool}{w:World}{xs:Nat->Value}(h:Here p l xs0 i L w xs)(j:Nat)(hj:reach l.toArray 6 i j=true)(hl:decide (j<l.length)=true):p.E j (xs j) w :=
 h.vals j (of_decide_eq_true hl) (h.dep j hj)
theorem Here.un{p:Plan}{l:List Oper}{xs0:Nat->Value}{i:Nat}{L:Array Bool}{w:World}{xs:Nat->Value}(h:Here p l xs0 i L w xs):Mix.one L i=0:=Mix.one_ready h.ready
theorem Here.isDone{p:Plan}{l:List Oper}{xs0:Nat->Value}{i:Nat}{L:Array Bool}{w:World}{xs:Nat->Value}(h:Here p l xs0 i L w xs)(j:Nat)(hj:reach l.toArray 6 i j=true):Mix.one L j=1:=by
 unfold Mix.one;rw [if_pos (h.dep j hj)]
theorem Here.v{p:Plan}{l:List Oper}{xs0:Nat->Value}{i:Nat}{L:Array Bool}{w:World}{xs:Nat->Value}(h:Here p l xs0 i L w xs)(j:Nat)(hj:reach l.toArray 6 i j=true:=by kernel_rfl)(hl:decide (j<l.length)=true:=by kernel_rfl):p.E j (xs j) w:=h.val j hj hl
theorem Here.notYet{p:Plan}{l:List Oper}{xs0:Nat->Value}{i:Nat}{L:Array Bool}{w:World}{xs:Nat->Value}(h:Here p l xs0 i L w xs)(j:Nat)(hj:reach l.toArray 6 j i=true):L.getD j false=false:=by
 cases hl:L.getD j false with
 |false=>rfl
 |true =>
  have h1:=h.closed.reach 6 j i hl hj;have h2:=(mem_ready.1 h.ready).1;obtain ⟨o',C3,_⟩:=(mem_ready.1 h.ready).2;have hlt:i<l.length:=by simpa using (Array.getElem?_eq_some_iff.1 C3).1
  rw [ez (by rw [h.size];exact hlt),h2] at h1
  cases h1
theorem Here.old{p:Plan}{l:List Oper}{xs0:Nat->Value}{i:Nat}{L:Array Bool}{w:World}{xs:Nat->Value}(h:Here p l xs0 i L w xs)(j:Nat)(hj:reach l.toArray 6 j i=true):xs j=xs0 j:=h.olds j (h.notYet j hj)
def Step(P:Program)(p:Plan)(l:List Oper)(xs0:Nat->Value)(i:Nat)(o:Oper):Prop :=
 ∀ L w xs,Here p l xs0 i L w xs ->
  (Region.wanted o (yielded l.toArray (p.F xs).tmps)=true/\upon P (fun v w'=>p.C (L.setIfInBounds i true) w'/\p.E i v w'/\p.Ext i w w') ((execOp (p.F xs).eval o).run P w)) \/
  (Region.wanted o (yielded l.toArray (p.F xs).tmps)=false/\p.C (L.setIfInBounds i true) w/\p.E i undef w)
def Steps(P:Program)(p:Plan)(l:List Oper)(xs0:Nat->Value):List Oper->Nat->Prop
 | [],_=>True
 | o :: rest,i=>Step P p l xs0 i o/\Steps P p l xs0 rest (i+1)
def Puts(p:Plan):List Oper->Nat->Prop
 | [],_=>True
 | o :: rest,i=>(∀ xs v,(p.F xs).put o.dst v=p.F (upd xs i v))/\Puts p rest (i+1)
theorem puts_at{p:Plan}:∀ (m:List Oper) (k:Nat),Puts p m k->∀ j o,m[j]? = some o->∀ xs v,(p.F xs).put o.dst v=p.F (upd xs (k+j) v)
 |[],_,_,j,o,h=>by simp at h
 |q :: m,k,hs,j,o,h=>by
  cases j with
  |zero=>simp at h;subst h;exact hs.1
  |succ j =>
   have:=puts_at m (k+1) hs.2 j o (by simpa using h)
   rwa [show k+1+j=k+(j+1) by omega] at this
theorem steps_at{P:Program}{p:Plan}{l:List Oper}{xs0:Nat->Value}:∀ (m:List Oper) (k:Nat),Steps P p l xs0 m k->∀ j o,m[j]? = some o->Step P p l xs0 (k+j) o
 |[],_,_,j,o,h=>by simp at h
 |q :: m,k,hs,j,o,h=>by
  cases j with
  |zero=>simp at h;subst h;exact hs.1
  |succ j =>
   have:=steps_at m (k+1) hs.2 j o (by simpa using h)
   rwa [show k+1+j=k+(j+1) by omega] at this
section
variable {P : Program} {l : List Oper} {p : Plan} {xs0 : Nat → Value}
def Inv(p:Plan)(l:List Oper)(xs0:Nat->Value)(L:Array Bool)(a:Act)(w:World):Prop:=∃ xs,a=p.F xs/\L.size=l.length/\Closed l L/\p.C L w/\(∀ j,j<l.length->L.getD j false=true->p.E j (xs j) w)/\∀ j,L.getD j false=false->xs j=xs0 j
theorem Inv.next{L:Array Bool}{w w':World}{xs:Nat->Value}{i:Nat}{o:Oper}{v:Value}(hput:∀ i o,l[i]? = some o->∀ xs v,(p.F xs).put o.dst v=p.F (upd xs i v))(ho:l[i]? = some o)(hs:L.size=l.length)(hc:Closed l (L.setIfInBounds i true))
  (hv:∀ j,j<l.length->L.getD j false=true->p.E j (xs j) w) (hold:∀ j,L.getD j false=false->xs j=xs0 j) (hC:p.C (L.setIfInBounds i true) w') (hE:p.E i v w') (hx:∀ j,j≠i->L.getD j false=true->p.E j (xs j) w->p.E j (xs j) w'):Inv p l xs0 (L.setIfInBounds i true) ((p.F xs).put o.dst v) w':=by
 refine ⟨upd xs i v,hput i o ho xs v,by simpa using hs,hc,hC,fun j hj hl=>?_,fun j hl=>?_⟩
 ·unfold upd
  by_cases h:j=i
  ·subst h;rw [if_pos rfl];exact hE
  ·rw [if_neg h];rw [getD_set_ne false (Ne.symm h)] at hl;exact hx j h hl (hv j hj hl)
 ·unfold upd
  by_cases h:j=i
  ·subst h;have hlt:j<L.size:=by rw [hs];exact (List.getElem?_eq_some_iff.1 ho).1
   rw [Array.getD_eq_getD_getElem?,Array.getElem?_setIfInBounds_self_of_lt hlt] at hl
   cases hl
  ·rw [if_neg h];rw [getD_set_ne false (Ne.symm h)] at hl;exact hold j hl
theorem wpOp_of{L:Array Bool}{a:Act}{w:World}{i:Nat}{K':Act->World->Prop}{Q':Exit->Act->World->Prop}(hput:∀ i o,l[i]? = some o->∀ xs v,(p.F xs).put o.dst v=p.F (upd xs i v))(Do:∀ i j x w w',j≠i->reach l.toArray 6 j i=false->p.Ext i w w'->p.E j x w->p.E j x w')(hst:Steps P p l xs0 l 0)(hI:Inv p l xs0 L a w)(hr:i ∈ Region.ready .any l.toArray L)
  (h:∀ a' w',Inv p l xs0 (L.setIfInBounds i true) a' w'->K' a' w'):wpOp P l.toArray Q' i K' a w:=by
 obtain ⟨xs,rfl,hs,DU,hC,hv,hold⟩:=hI;have IN:=DU.next hr;obtain ⟨_,o,ho,_⟩:=mem_ready.1 hr;have C3:l[i]? = some o:=by simpa using ho
 have ET:∀ {w':World},p.Ext i w w'->∀ j,j≠i->L.getD j false=true->p.E j (xs j) w->p.E j (xs j) w':=fun hx j E8 hl hE=>by
  cases hre:reach l.toArray 6 j i with
  |false=>exact Do i j _ _ _ E8 hre hx hE
  |true =>
   have h1:=DU.reach 6 j i hl hre;have h2:=(mem_ready.1 hr).1;have hlt:i<l.length:=(List.getElem?_eq_some_iff.1 C3).1;rw [ez (by rw [hs];exact hlt),h2] at h1
   cases h1
 have hstep:=steps_at l 0 hst i o C3;rw [Nat.zero_add] at hstep;unfold wpOp;simp only [ho]
 rcases hstep L w xs ⟨hs,DU,hr,hC,hv,hold⟩ with ⟨hw,hu⟩ | ⟨hw,Kw,hE⟩
 ·rw [if_pos hw];refine .inl ?_;unfold Oper.wp;generalize (execOp (p.F xs).eval o).run P w=r at *
  cases r with
  |halt x w'=>exact hu.elim
  |ok n w' =>
   cases n <;> simp only [upon] at hu <;> simp only [Oper.upon]
   case value u =>
    obtain ⟨h1,h2,h3⟩:=hu;exact h _ _ (Inv.next hput C3 hs IN hv hold h1 h2 (ET h3))
   case skip =>
    obtain ⟨h1,h2,h3⟩:=hu;exact h _ _ (Inv.next hput C3 hs IN hv hold h1 h2 (ET h3))
   case enter f args =>
    exact hu.mono fun e w'' ⟨v,he,h1,h2,h3⟩=>by
     subst he;exact h _ _ (Inv.next hput C3 hs IN hv hold h1 h2 (ET h3))
 ·rw [if_neg (by rw [hw];exact Bool.false_ne_true)];exact h _ _ (Inv.next hput C3 hs IN hv hold Kw hE fun _ _ _ h=>h)
theorem any_of{Q':Exit->Act->World->Prop}(BB:fT (l++[default]) l.length=true)(hput:∀ i o,l[i]? = some o->∀ xs v,(p.F xs).put o.dst v=p.F (upd xs i v))(Do:∀ i j x w w',j≠i->reach l.toArray 6 j i=false->p.Ext i w w'->p.E j x w->p.E j x w')(hst:Steps P p l xs0 l 0)(hQ:∀ a w,Inv p l xs0 (Array.replicate l.length true) a w->Q' .normal a w) :
  ∀ (f:Nat) (L:Array Bool) (a:Act) (w:World),L.size=l.length->Inv p l xs0 L a w->de l.length L=f->wpAny P .any l.toArray Q' f L a w:=by
 have hend:∀ (L:Array Bool) a w,L.size=l.length->Region.ready .any l.toArray L=[]->Inv p l xs0 L a w->Q' .normal a w:=by
  intro L a w hs hr hI;rw [Mix.all_listed BB hs hr] at hI;exact hQ a w hI
 intro f
 induction f with
 |zero =>
  intro L a w hs hI hu;have hr:Region.ready .any l.toArray L=[]:=by
   cases hc:Region.ready .any l.toArray L with
   |nil=>rfl
   |cons i t =>
    have hi:i ∈ Region.ready .any l.toArray L:=by rw [hc];simp
    obtain ⟨h0,o,ho,_⟩:=mem_ready.1 hi;have hlt:i<l.length:=by simpa using (Array.getElem?_eq_some_iff.1 ho).1
    have:=es hu i hlt;rw [this] at h0
    cases h0
  exact ⟨hr,hend L a w hs hr hI⟩
 |succ f ih =>
  intro L a w hs hI hu;refine ⟨fun hr=>hend L a w hs hr hI,fun i hi=>wpOp_of hput Do hst hI hi fun a' w' hI'=>ih _ a' w' (by simpa using hs) hI' ?_⟩;obtain ⟨h0,o,ho,_⟩:=mem_ready.1 hi;have hlt:i<l.length:=by simpa using (Array.getElem?_eq_some_iff.1 ho).1
  have:=eR hs hlt h0;omega
theorem region{id:Nat}{Q:Exit->Act->World->Prop}{a:Act}{w:World}(p:Plan)(xs0:Nat->Value)(hm:P.follows .mixedOrders=true)(BB:fT (l++[default]) l.length=true)(h0:a=p.F xs0)(hC:p.C (Array.replicate l.length false) { w with drawn:=w.drawn+1 })
  (Gu:Puts p l 0) (Do:∀ i j x w w',j≠i->reach l.toArray 6 j i=false->p.Ext i w w'->p.E j x w->p.E j x w') (hst:Steps P p l xs0 l 0)
  (hend:∀ xs w',p.C (Array.replicate l.length true) w'->(∀ j,j<l.length->p.E j (xs j) w')->Q .normal (p.F xs) w'):(Code.region id l.toArray true).wp P Q a w:=by
 refine wp_region_any hm ?_;have hput:∀ i o,l[i]? = some o->∀ xs v,(p.F xs).put o.dst v=p.F (upd xs i v):=fun i o ho=>by
  have:=puts_at l 0 Gu i o ho
  rwa [Nat.zero_add] at this
 have:=any_of (Q':=Q) BB hput Do hst (fun a w ⟨xs,e,_,_,hC,hv,_⟩=>by
  subst e;refine hend xs w hC fun j hj=>hv j hj ?_
  rw [Array.getD_eq_getD_getElem?,Array.getElem?_replicate,if_pos hj]
  rfl) l.length (Array.replicate l.length false) a { w with drawn:=w.drawn+1 } (by simp) ⟨xs0,h0,by simp,Closed.start _ _,hC,fun j hj hl=>(by rw [getD_replicate_false] at hl;cases hl),fun j _=>rfl⟩ (dv _)
 simpa using this
theorem puts_of{p:Plan}:∀ (m:List Oper) (k:Nat),(∀ j d,(dsts m)[j]? = some d->∀ xs v,(p.F xs).put d v=p.F (upd xs (k+j) v))->Puts p m k
 | [],_,_=>trivial
 | o :: m,k,h=>⟨fun xs v=>h 0 o.dst (by simp [dsts]) xs v,puts_of m (k+1) fun j d hd xs v=>by
  have:=h (j+1) d (by simpa [dsts] using hd) xs v
  rwa [show k+(j+1)=k+1+j by omega] at this⟩
theorem regionF{id:Nat}{Q:Exit->Act->World->Prop}{a:Act}{w:World}(E:Nat->Value->World->Prop)(C:Array Bool->World->Prop)(X:Nat->World->World->Prop)(st:∀ i j x w w',j≠i->reach l.toArray 6 j i=false->X i w w'->E j x w->E j x w')
  (hm:P.follows .mixedOrders=true) (BB:fT (l++[default]) l.length=true) (hap:dz (dsts l)=true) (hC:C (Array.replicate l.length false) { w with drawn:=w.drawn+1 })
  (H:∀ (F:(Nat->Value)->Act),(∀ xs,F xs=frame xs (dsts l) 0 a)->Steps P ⟨F,E,C,X⟩ l (fun i=>match (dsts l)[i]? with | some (some d)=>a.tmps.getD d undef | _=>undef) l 0 /\
   (∀ xs w',C (Array.replicate l.length true) w'->(∀ j,j<l.length->E j (xs j) w')->Q .normal (F xs) w')):(Code.region id l.toArray true).wp P Q a w:=by
 obtain ⟨h1,h2⟩:=H (fun xs=>frame xs (dsts l) 0 a) (fun _=>rfl);refine region ⟨fun xs=>frame xs (dsts l) 0 a,E,C,X⟩ _ hm BB (dP a hap) hC (puts_of l 0 fun j d hd xs v=>?_) st h1 h2;have:=fj xs v (dsts l) 0 a hap j d hd
 simpa using this
end
end RegX
end
section
namespace RegX
open Reg (upon upd Closed reach frame dsts dz fj dP dv lJ js j7 lK iP zd)
section
variable {P : Program} {l : List Oper} {p : Plan} {xs0 : Nat → Value} {F : Fence} {n : Nat}
end
end RegX
end
section
theorem But.drew{g B:Nat}{w w':World}(h:But g B w w'):But g B w w'.drew:=⟨h.os,h.tape,h.output,h.size,h.block⟩
theorem jf(g:Nat)(t:TypeId):∀ (vs pre old:List Value) (w:World),Has w g (pre++old) t->old.length=vs.length->Has (w.setCells g pre.length vs) g (pre++vs) t
 |[],pre,old,w,h,hl=>by
  have:old=[]:=List.eq_nil_of_length_eq_zero hl;subst this;exact h
 |v :: vs,pre,old,w,h,hl=>by
  cases old with
  |nil=>simp at hl
  |cons o old =>
   have h1:=h.set pre.length v;rw [List.set_append_right _ _ (Nat.le_refl _),Nat.sub_self,List.set_cons_zero] at h1;have h2:=jf g t vs (pre++[v]) old (w.setCell ⟨g,pre.length,none⟩ v) (by simpa using h1) (by simpa using hl)
   simpa [World.setCells] using h2
theorem gu(g B:Nat)(w:World):∀ (vs:List Value) (o:Nat) (w':World),But g B w w'->But g B w (w'.setCells g o vs)
 | [],_,_,h=>h
 | v :: vs,o,w',h=>gu g B w vs (o+1) _ (h.set o v)
theorem tG{w:World}{g:Nat}{C:List Value}{t:TypeId}(h:Has w g C t)(n:Nat)(hn:n<=C.length):w.there g 0 n:=fun j hj=>by
 rw [Nat.zero_add,h.cell j (C[j]'(by omega)) (List.getElem?_eq_getElem _)];exact ⟨rfl,h.free j⟩
section
variable {P : Program}
theorem bu{ops:Array Oper}{rest:List Oper}{o:Oper}{a:Act}{w:World}{Q:Exit->Act->World->Prop}(hgd:o.guard=none)(ty:TypeId)(x y:Operand)(ho:o.op=.store ty x y)
  (g:Nat) (hx:a.eval x=.pointer (some ⟨g,0,none⟩)) (t:TypeId) (old C:List Value) (n:Nat) (hy:a.eval y=.agg C.toArray) (hg:Has w g old t)
  (hi:(P.info? ty).map (·.size)=some n) (C3:old.length=n) (hn:C.length=n) (h1:∀ v ∈ C,v.oneCell'=true)
  (h:∀ w',Has w' g C t->But g w.heap.size w w'->wpList P ops Q rest (a.put o.dst undef) w'):wpList P ops Q (o :: rest) a w:=by
 refine wpList_store_mid hgd ty x y ho g 0 C.toArray hx hy (tG hg _ (by simp;omega)) (by rw [hi];simp [hn]) (all_oneCell_toArray h1) ?_;have h2:=jf g t C [] old w hg (by omega);exact h _ (by simpa using h2) (gu g w.heap.size w C 0 w (But.refl _ _ _))
end
end
section
structure Upd (S:an) (w w':World):Prop where
 os:w'.os=w.os
 tape:w'.tape=w.tape
 output:w'.output=w.output
 size:w.heap.size<=w'.heap.size
 block:∀ b,b<w.heap.size->¬ S b->w'.heap[b]? = w.heap[b]?
theorem Upd.refl(S:an)(w:World):Upd S w w:=⟨rfl,rfl,rfl,Nat.le_refl _,fun _ _ _=>rfl⟩
theorem Upd.trans{S:an}{a b c:World}(h:Upd S a b)(k:Upd S b c):Upd S a c :=
 ⟨k.os.trans h.os,k.tape.trans h.tape,k.output.trans h.output,Nat.le_trans h.size k.size,fun i hi hs=>(k.block i (Nat.lt_of_lt_of_le hi h.size) hs).trans (h.block i hi hs)⟩
theorem Upd.mono{S T:an}{w w':World}(h:Upd S w w')(hs:∀ b,b<w.heap.size->S b->T b):Upd T w w':=⟨h.os,h.tape,h.output,h.size,fun b hb ht=>h.block b hb fun hs'=>ht (hs b hb hs')⟩
theorem Upd.ofBelow{S:an}{w w':World}(h:Below w.heap.size w w'):Upd S w w':=⟨h.os,h.tape,h.output,h.size,fun b hb _=>h.block b hb⟩
theorem Upd.below{S:an}{B:Nat}{w w':World}(h:Upd S w w')(hB:B<=w.heap.size)(hs:∀ b,S b->B<=b):Below B w w' :=
 ⟨h.os,h.tape,h.output,h.size,fun b hb=>h.block b (by omega) fun k=>by have:=hs b k;omega⟩
theorem Upd.keep{S:an}{w w':World}(h:Upd S w w'):KeepZ (fun b=>¬ S b) w w':=⟨h.size,h.block⟩
theorem Upd.ofBut{g:Nat}{w w':World}(h:But g w.heap.size w w'):Upd (fun b=>b=g) w w':=⟨h.os,h.tape,h.output,h.size,fun b hb hn=>h.block b hb hn⟩
theorem Upd.setCell{S:an}{a w:World}(h:Upd S a w){p:Addr}(hp:S p.block\/a.heap.size<=p.block)(u:Value):Upd S a (w.setCell p u) :=
 ⟨h.os,h.tape,h.output,by rw [World.size_setCell];exact h.size,fun b hb hn=>by rw [heap_setCell_other w p b u (fun e=>by subst e;rcases hp with hp | hp;exact hn hp;omega)];exact h.block b hb hn⟩
theorem Upd.alloc{S:an}{a w:World}(h:Upd S a w)(o:Obj):Upd S a (w.alloc o):=h.trans (.ofBelow (AU _ o))
theorem Upd.drew{S:an}{a w:World}(h:Upd S a w):Upd S a w.drew:=⟨h.os,h.tape,h.output,h.size,h.block⟩
theorem _root_.Go.RowKit.Below.upd{S:an}{B:Nat}{a b c:World}(h:Below B a b)(k:Upd S b c)(hB:B<=b.heap.size)(hs:∀ x,S x->B<=x):Below B a c:=h.trans (k.below hB hs)
section
variable {α : Type} {E : Elem α} {Z Y : an} {w w' : World} {v u : Value} {L M : List α} {B : Nat} {ty : TypeId}
theorem HeldE.upd{S:an}(h:HeldE E Z w v L)(hk:Upd S w w')(hs:∀ b,Z b->¬ S b):HeldE E Z w' v L:=h.kept (hk.keep.mono fun b _ hz=>hs b hz)
theorem OwnE.upd{S:an}(h:OwnE E Z w B ty v L)(hk:Upd S w w')(hs:∀ b,Z b\/v.ownBlock=some b->¬ S b):OwnE E Z w' B ty v L:=h.keep (hk.keep.mono fun b _ hz=>hs b hz) fun _ _ hz=>hz
theorem mN{Zi:Nat->an}{CS:List (List Value)}(hl:CS.length=L.length)(h:∀ i,i<L.length->E.rep (Zi i) w (CS.getD i []) (L.getD i E.zero)):∀ C ∈ CS,C.length=E.size:=by
 intro C hC;obtain ⟨i,hi,rfl⟩:=List.getElem_of_mem hC;have:=E.len (h i (by omega))
 rwa [show CS.getD i []=CS[i] from by simp [List.getD,List.getElem?_eq_getElem hi]] at this
def OwnI(E:Elem α)(Zi:Nat->an)(w:World)(B:Nat)(ty:TypeId)(v:Value)(L:List α):Prop :=
 ∃ CS:List (List Value),w.ownsRow B ty E.size v L.length CS.flatten/\CS.length=L.length/\∀ i,i<L.length->E.rep (fun b=>Zi i b/\v.ownBlock≠some b) w (CS.getD i []) (L.getD i E.zero)
theorem OwnE.each(h:OwnE E Z w B ty v L):OwnI E (fun _=>Z) w B ty v L:=h
theorem OwnI.all{Zi:Nat->an}(h:OwnI E Zi w B ty v L)(hz:∀ i b,i<L.length->b<w.heap.size->Zi i b->Z b):OwnE E Z w B ty v L:=by
 obtain ⟨CS,h1,h2,h3⟩:=h;exact ⟨CS,h1,h2,fun i hi=>E.keep (.refl _ _) (fun b hb k=>⟨hz i b hi hb k.1,k.2⟩) (h3 i hi)⟩
theorem OwnI.keep{Zi Yi:Nat->an}(h:OwnI E Zi w B ty v L)(hk:KeepZ (fun b=>(∃ i,i<L.length/\Zi i b)\/v.ownBlock=some b) w w')(hy:∀ i b,i<L.length->b<w.heap.size->Zi i b->Yi i b):OwnI E Yi w' B ty v L:=by
 obtain ⟨CS,h1,h2,h3⟩:=h;exact ⟨CS,hk.own h1 fun b hb=>.inr hb,h2,fun i hi=>E.keep (hk.mono fun b _ hz=>.inl ⟨i,hi,hz.1⟩) (fun b hb hz=>⟨hy i b hi hb hz.1,hz.2⟩) (h3 i hi)⟩
theorem OwnI.below{Zi:Nat->an}(h:OwnI E Zi w B ty v L)(hb:Below w.heap.size w w'):OwnI E Zi w' B ty v L:=h.keep (.all hb _) fun _ _ _ _ hz=>hz
theorem OwnI.lt{Zi:Nat->an}(h:OwnI E Zi w B ty v L):∀ k,v.ownBlock=some k->B<=k/\k<w.heap.size:=by
 obtain ⟨CS,h,_⟩:=h;exact h.lt
theorem OwnI.at{Zi:Nat->an}{g cap n:Nat}(h:OwnI E Zi w B ty (.slice (some ⟨g,0,none⟩) n cap) L){i:Nat}(hi:i<L.length):∃ C,(∀ j,j<E.size->w.cell? ⟨g,i * E.size+j,none⟩=C[j]? /\ w.frozen? ⟨g,i * E.size+j,none⟩=false)/\E.rep (fun b=>Zi i b/\b≠g) w C (L.getD i E.zero):=by
 obtain ⟨CS,h1,h2,h3⟩:=h;have hn:n=L.length:=by
  rcases h1.2 with ⟨h',_⟩ | ⟨g',cap',cur,h',_⟩
  ·simp at h'
  ·simp only [Value.slice.injEq] at h';exact h'.2.1
 subst hn;have Fb:=mN h2 (Zi:=fun i b=>Zi i b/\_) h3;refine ⟨CS.getD i [],fun j hj=>⟨?_,h1.frozenAt _⟩,E.keep (.refl _ _) (fun b _ hz=>⟨hz.1,fun e=>hz.2 (by subst e;rfl)⟩) (h3 i hi)⟩;rw [h1.cellAt (i * E.size+j) (by
   have:i * E.size+E.size<=L.length * E.size:=by rw [<-Nat.succ_mul];exact Nat.mul_le_mul_right _ hi
   omega)]
 exact gm Fb i j (by omega) hj
theorem jd{g n cap size:Nat}:∀ (vs:List Value) (o:Nat) (xs:List Value) (w:World),w.ownsRow B ty size (.slice (some ⟨g,0,none⟩) n cap) n xs->o+vs.length<=xs.length ->
  (w.setCells g o vs).ownsRow B ty size (.slice (some ⟨g,0,none⟩) n cap) n (xs.take o++vs++xs.drop (o+vs.length))
 |[],o,xs,w,h,_=>by simpa [World.setCells] using h
 |v :: vs,o,xs,w,h,hl=>by
  simp only [List.length_cons] at hl;have h1:=(h.stored o v).1;have h2:=jd vs (o+1) (xs.set o v) (w.setCell ⟨g,o,none⟩ v) h1 (by simp;omega);have e:(xs.set o v).take (o+1)++vs++(xs.set o v).drop (o+1+vs.length)=xs.take o++(v :: vs)++xs.drop (o+(v :: vs).length):=by
   rw [List.take_succ_eq_append_getElem (by simp;omega),List.take_set_of_le (Nat.le_refl _),List.drop_set_of_lt (by omega)]
   simp [List.length_cons,Nat.add_assoc,Nat.add_comm 1 vs.length]
  rw [e] at h2;exact h2
theorem pe{s:Nat}:∀ {CS:List (List Value)},(∀ C ∈ CS,C.length=s)->∀ (i:Nat) (C:List Value),i<CS.length->C.length=s->CS.flatten.take (i * s)++C++CS.flatten.drop (i * s+s)=(CS.set i C).flatten
 |[],_,i,_,hi,_=>absurd hi (Nat.not_lt_zero _)
 |D :: CS,h,0,C,_,hC=>by
  have hD:=h D (by simp);simp only [List.flatten_cons,Nat.zero_mul,List.take_zero,List.nil_append,Nat.zero_add,List.set_cons_zero];rw [<-hD,List.drop_left]
 |D :: CS,h,i+1,C,hi,hC=>by
  have hD:=h D (by simp);have ih:=pe (fun E hE=>h E (List.mem_cons_of_mem _ hE)) i C (by simpa using hi) hC;have e1:(i+1) * s=D.length+i * s:=by rw [hD,Nat.add_mul];omega
  simp only [List.flatten_cons,List.set_cons_succ];rw [e1,List.take_length_add_append,show D.length+i * s+s=D.length+(i * s+s) by omega,List.drop_length_add_append,<-ih]
  simp [List.append_assoc]
theorem OwnI.put{Zi:Nat->an}{g n cap:Nat}(h:OwnI E Zi w B ty (.slice (some ⟨g,0,none⟩) n cap) L){i:Nat}(hi:i<L.length)(C:List Value)(x:α)(hr:E.rep (fun b=>Y b/\b≠g) w C x) :
  OwnI E (fun j=>if j=i then Y else Zi j) (w.setCells g (i * E.size) C) B ty (.slice (some ⟨g,0,none⟩) n cap) (L.set i x)/\Upd (fun b=>b=g) w (w.setCells g (i * E.size) C):=by
 have hu:Upd (fun b=>b=g) w (w.setCells g (i * E.size) C):=.ofBut (gu g w.heap.size w C _ w (But.refl _ _ _));refine ⟨?_,hu⟩;obtain ⟨CS,h1,h2,h3⟩:=h;have hn:n=L.length:=by
  rcases h1.2 with ⟨h',_⟩ | ⟨g',cap',cur,h',_⟩
  ·simp at h'
  ·simp only [Value.slice.injEq] at h';exact h'.2.1
 subst hn;have Fb:=mN h2 (Zi:=fun i b=>Zi i b/\_) h3;have hC:=E.len hr;have h4:=jd C (i * E.size) CS.flatten w h1 (by rw [ew Fb,h2,hC,<-Nat.succ_mul];exact Nat.mul_le_mul_right _ hi);rw [hC,pe Fb i C (by omega) hC] at h4;refine ⟨CS.set i C,by rw [List.length_set];exact h4,by simp [h2],fun j hj=>?_⟩;simp only [List.length_set] at hj;have hk:KeepZ (fun b=>b≠g) w (w.setCells g (i * E.size) C):=hu.keep
 by_cases e:j=i
 ·subst e;rw [show (CS.set j C).getD j []=C from by simp [List.getD,List.getElem?_set_self (show j<CS.length by omega)],show (L.set j x).getD j E.zero=x from by simp [List.getD,List.getElem?_set_self hi]];simp only [if_true];exact E.keep (hk.mono fun b _ hz=>hz.2) (fun b _ hz=>⟨hz.1,fun e=>hz.2 (by simpa [Value.ownBlock] using e.symm)⟩) hr
 ·rw [show (CS.set i C).getD j []=CS.getD j [] from by simp [List.getD,List.getElem?_set_ne (Ne.symm e)],show (L.set i x).getD j E.zero=L.getD j E.zero from by simp [List.getD,List.getElem?_set_ne (Ne.symm e)]];simp only [if_neg e];exact E.keep (hk.mono fun b _ hz=>fun e=>hz.2 (by subst e;rfl)) (fun b _ hz=>hz) (h3 j hj)
theorem OwnI.there{Zi:Nat->an}{g n cap:Nat}(h:OwnI E Zi w B ty (.slice (some ⟨g,0,none⟩) n cap) L){i:Nat}(hi:i<L.length):w.there g (i * E.size) E.size:=by
 obtain ⟨C,h1,h2⟩:=h.at hi;intro j hj;obtain ⟨h3,h4⟩:=h1 j hj;rw [h3];exact ⟨by rw [List.getElem?_eq_getElem (by rw [E.len h2];exact hj)];rfl,h4⟩
theorem eP{P:Program}{ops:Array Oper}{rest:List Oper}{o:Oper}{a:Act}{Q:Exit->Act->World->Prop}(hgd:o.guard=none)(t:TypeId)(x y:Operand)(ho:o.op=.store t x y){Zi:Nat->an}{g n cap i off:Nat}
  (hx:a.eval x=.pointer (some ⟨g,off,none⟩)) (hoff:off=i * E.size) (C:List Value) (hy:a.eval y=.agg C.toArray) (hi2:(P.info? t).map (·.size)=some E.size)
  (h:OwnI E Zi w B ty (.slice (some ⟨g,0,none⟩) n cap) L) (hi:i<L.length) (z:α) (hr:E.rep (fun b=>Y b/\b≠g) w C z)
  (hk:∀ w',OwnI E (fun j=>if j=i then Y else Zi j) w' B ty (.slice (some ⟨g,0,none⟩) n cap) (L.set i z)->Upd (fun b=>b=g) w w'->wpList P ops Q rest (a.put o.dst undef) w'):wpList P ops Q (o :: rest) a w:=by
 subst hoff;have hC:=E.len hr;refine wpList_store_mid hgd t x y ho g (i * E.size) C.toArray hx hy (by simpa [hC] using h.there hi) (by rw [hi2];simp [hC]) (all_oneCell_toArray (E.one hr)) ?_;obtain ⟨h1,h2⟩:=h.put hi C z hr;exact hk _ (by simpa using h1) (by simpa using h2)
end
end
def bj(r:Int):Bool:=decide (0<=r) && decide (r<=1114111) && (decide (r<55296) || decide (57343<r))
theorem validB_true{r:Int}:bj r=true↔(0<=r/\r<=1114111/\(r<55296\/57343<r)):=by
 unfold bj;simp [and_assoc]
section
open Go.RowKit
theorem j9(r:Int)(w:World):Calls Tryz.prog 152 #[.int .i32 r] w fun e w'=>e=.returned (.bool (bj r))/\w=w':=by
 by_cases h0:0<=r
 ·by_cases h1:r<=1114111
  ·by_cases h2:r<55296
   ·have hv:bj r=true:=validB_true.2 (by omega);rw [hv]
    go_enter Tryz.func152,Tryz.ntmps152
    go_wp2;go_ret;exact ⟨rfl,rfl⟩
   ·by_cases h3:57343<r
    ·have hv:bj r=true:=validB_true.2 (by omega);rw [hv]
     go_enter Tryz.func152,Tryz.ntmps152
     go_wp2;go_ret;exact ⟨rfl,rfl⟩
    ·have hv:bj r=false:=by unfold bj;simp;omega
     rw [hv]
     go_enter Tryz.func152,Tryz.ntmps152
     go_wp2;go_ret;exact ⟨rfl,rfl⟩
  ·have hv:bj r=false:=by unfold bj;simp;omega
   rw [hv]
   go_enter Tryz.func152,Tryz.ntmps152
   go_wp2;go_ret;exact ⟨rfl,rfl⟩
 ·have hv:bj r=false:=by unfold bj;simp;omega
  rw [hv]
  go_enter Tryz.func152,Tryz.ntmps152
  go_wp2;go_ret;exact ⟨rfl,rfl⟩
end
def bg(x:Int):Int:=if bj x=true then x else 65533
theorem Tryz.info21r:(Tryz.prog.info? 21).map (fun i=>(i.zero,i.size,i.bytes))=some (some (.int .i32 0),1,4):=by kernel_rfl
def iH(xs:List Int)(k:Nat):List Int:=(xs.take k).map bg++List.replicate (xs.length - k) 0
theorem ua(xs:List Int)(k:Nat)(h:k<=xs.length):(iH xs k).length=xs.length:=by simp [iH];omega
theorem ub(xs:List Int)(k:Nat)(h:k<xs.length):(iH xs k).set k (bg (xs.getD k 0))=iH xs (k+1):=by
 unfold iH;have e1:xs.length - k=(xs.length - (k+1))+1:=by omega
 have e3:((xs.take k).map bg).length=k:=by simp;omega
 rw [e1,List.replicate_succ,List.set_append,if_neg (by omega),List.take_succ_eq_append_getElem h,e3,Nat.sub_self]
 simp [List.getD,List.getElem?_eq_getElem h,List.take_succ_eq_append_getElem (show k<(xs.map bg).length by simpa using h)]
theorem ud(k:IntKind)(n:Nat):(madeCells (Value.int k 0).cells (n * 1)).toList=(List.replicate n (0:Int)).map (Value.int k):=by
 apply List.ext_getElem
 ·simp [madeCells]
 ·intro i h1 h2
  simp [madeCells,Value.cells,Nat.mod_one]
def oL(w:World)(g:Nat)(xs:List Int)(k:Nat)(wr:World):Prop :=
 wr.ownsRow w.heap.size 21 1 (.slice (some ⟨g,0,none⟩) xs.length xs.length) xs.length ((iH xs k).map (Value.int .i32))/\Below w.heap.size w wr
theorem kD(v:Value)(xs:List Int)(w:World)(hh:Held .i32 w v xs)(hlen:xs.length<=1000000000) :
  Calls Tryz.prog 81 #[v] w (fun e w'=>∃ v',e=.returned v'/\w'.ownsRow w.heap.size 21 1 v' xs.length ((xs.map bg).map (Value.int .i32))/\Below w.heap.size w w'):=by
 obtain ⟨ao,cap,rfl,hc⟩:=hh.view;have HC:=ab hc;clear hc hh;obtain ⟨i0,hi,hz0,hz1,hz2⟩:=info_parts Tryz.info21r
 go_enter Tryz.func81,Tryz.ntmps81
 go_wp2_with (at_make;refine wpList_make_full w rfl (.tmp 7) (.tmp 7) 27 rfl w.heap.size 21 i0 (.int .i32 0) 1 Tryz.underlying27 hi hz0 hz1 .i64 .i64 _ _ xs.length rfl rfl rfl rfl (by rw [hz2];omega) (by unfold maxLen;omega) (Nat.le_refl _) ?_)
 intro w1 hown1 hg1;have hb1:Below w.heap.size w w1:=(Below.refl _ _).grown hg1 (Nat.le_refl _) (by intro k hk;cases hk);have hrel0:oL w w.heap.size xs 0 w1:=by
  refine ⟨?_,hb1⟩;have e:iH xs 0=List.replicate xs.length 0:=by simp [iH]
  rw [e,<-ud,Nat.mul_one];exact hown1
 clear hown1 hg1 hb1;have HR:=ab hrel0;clear hrel0;generalize hgn:w.heap.size=g at HR;have HG:=ab hgn;clear hgn;go_wp2
 go_loopw [11] (fun i wr=>∃ k:Nat,k<=xs.length/\i=.int .i64 k/\oL w g xs k wr) (fun i _=>xs.length - (intOf i).toNat)
 case atStart=>exact ⟨0,Nat.zero_le _,rfl,HR.out⟩
 case round =>
  obtain ⟨m,hm,rfl,hrel⟩:=hrel
  by_cases hlm:m<xs.length
  ·obtain ⟨b,off,rfl,hb,B0⟩:=HC.out m hlm;have B0:=(hrel.2.cell (p:=⟨b,off+m,none⟩) hb).trans B0;obtain ⟨x,hx⟩:=ae (xs.getD m 0);rw [<-hx] at B0;have hcell0:∃ y,wr.cell? ⟨g,m,none⟩=some y:=by
    rw [hrel.1.cellAt m (by omega)];exact ⟨_,List.getElem?_eq_getElem (by simp [ua xs m (by omega)];omega)⟩
   obtain ⟨y,hy⟩:=hcell0;have hfro:=hrel.1.frozenAt m;have hst:=fun u=>hrel.1.stored m u
   have LH:w.heap.size<=g:=(hrel.1.lt g rfl).1;have next:∀ z,z=bg x->oL w g xs (m+1) (wr.setCell ⟨g,m,none⟩ (.int .i32 z)):=by
    intro z hz;refine ⟨?_,hrel.2.setCell (p:=⟨g,m,none⟩) LH _⟩;rw [hz,hx];have:=(hst (.int .i32 (bg (xs.getD m 0)))).1;rw [<-List.map_set,ub xs m hlm] at this;exact this
   have NX:=ab next;clear next hst hx hrel
   by_cases hvx:bj x=true
   ·have HV:=ab hvx;clear hvx
    go_wp2_with fail
    refine (j9 _ _).mono ?_;rintro e w' ⟨rfl,rfl⟩;rw [HV.out];go_wp2
    go_roundw
    case rel=>exact ⟨m+1,by omega,by go_num,NX.out x (by unfold bg;rw [if_pos HV.out])⟩
    case measure=>simp [intOf];omega
   ·have HV:=ab (show bj x=false by simpa using hvx);clear hvx
    go_wp2_with fail
    refine (j9 _ _).mono ?_;rintro e w' ⟨rfl,rfl⟩;rw [HV.out];go_wp2
    go_roundw
    case rel=>exact ⟨m+1,by omega,by go_num,NX.out 65533 (by unfold bg;rw [if_neg (by rw [HV.out];decide)])⟩
    case measure=>simp [intOf];omega
  ·go_wp2;go_ret;have EU:m=xs.length:=by omega
   subst EU;have hr1:=hrel.1;rw [show iH xs xs.length=xs.map bg by simp [iH]] at hr1;exact ⟨_,rfl,hr1,hrel.2⟩
theorem pO(v:Value)(xs:List Int)(w:World)(hh:Held .i32 w v xs)(hlen:xs.length<=1000000000) :
  Calls Tryz.prog 81 #[v] w (AN .i32 w (xs.map bg)) :=
 (kD v xs w hh hlen).mono fun _ _ ⟨v',h1,h2,h3⟩=>⟨v',h1,bF h2,h3⟩
abbrev Cl:=Int × List Int
abbrev zc:Cl:=(0,[])
def cR(t:List Int):Bool:=t.all bj
def ce(c:Cl):Bool:=if c.1 == 0 || c.1 == 3 then c.2.length == 0 else (c.1 == 1 || c.1 == 2) && decide (0<c.2.length) && decide (c.2.length<=16) && cR c.2
def dI(lead:Bool):List Cl->Bool
 | []=>!lead
 | c :: l=>ce c && (lead == (c.1 == 3)) && dI (c.1 == 2) l
def bz(l:List Cl):Bool:=dI false l
def fK(l:List Cl)(i:Int):Int:=if i<0 then 0 else (l.getD i.toNat zc).1
def oJ(l:List Cl)(i:Nat):Bool:=ce (l.getD i zc) && !((l.getD i zc).1 == 2 && fK l ((i:Int)+1) != 3) && !((l.getD i zc).1 == 3 && fK l ((i:Int) - 1) != 2)
def tZ(l:List Cl)(n:Nat):Bool:=(List.range n).all (oJ l)
theorem oK{l:List Cl}{k n:Nat}(hk:k<n)(h:tZ l n=true):oJ l k=true:=by
 unfold tZ at h;rw [List.all_eq_true] at h;exact h k (List.mem_range.2 hk)
def cg(l:List Cl)(k:Nat):Bool:=if k=0 then false else (l.getD (k - 1) zc).1 == 2
def dY(l:List Cl)(k:Nat):Bool:=ce (l.getD k zc) && (cg l k == ((l.getD k zc).1 == 3))
theorem eC(l:List Cl)(k:Nat):cg l (k+1)=((l.getD k zc).1 == 2):=by unfold cg;rw [if_neg (by omega)];rfl
theorem gX(l:List Cl)(k:Nat)(hk:k<l.length):dI (cg l k) (l.drop k)=(dY l k && dI (cg l (k+1)) (l.drop (k+1))):=by
 rw [List.drop_eq_getElem_cons hk,eC];unfold dY;have e:l.getD k zc=l[k]:=by simp [List.getD,List.getElem?_eq_getElem hk]
 rw [e]
 rfl
theorem rC{l:List Cl}{k:Nat}(hk:k<l.length)(hp:dI (cg l k) (l.drop k)=bz l)(h:dY l k=false):bz l=false:=by
 rw [<-hp,gX l k hk,h];rfl
theorem pM{l:List Cl}{k:Nat}(hk:k<l.length)(hp:dI (cg l k) (l.drop k)=bz l)(h:dY l k=true):dI (cg l (k+1)) (l.drop (k+1))=bz l:=by
 rw [<-hp,gX l k hk,h];rfl
theorem rD{l:List Cl}(hp:dI (cg l l.length) (l.drop l.length)=bz l):bz l = !cg l l.length:=by
 rw [<-hp,List.drop_length];rfl
theorem ip{α:Type}(l:List α)(d:α)(k:Nat)(h:l.length<=k):l.getD k d=d:=by simp [List.getD,List.getElem?_eq_none h]
theorem mW(l:List Cl):bz l=tZ l l.length:=by
 have key:∀ n,n<=l.length->((∀ k,k<n->dY l k=true)/\cg l n=false↔(∀ k,k<n->oJ l k=true)/\(0<n->n<l.length->(l.getD n zc).1≠3->True)/\(∀ k,k<n->True)/\(cg l n=false))\/True:=fun _ _=>.inr trivial
 clear key
 -- by induction: all places up tz9 n are sound just if all are so,but for what a lead at n - 1 awaits
 have ind:∀ n,n<=l.length->((∀ k,k<n->dY l k=true)↔(∀ k,k<n->ce (l.getD k zc)=true)/\(∀ k,k+1<n->((l.getD k zc).1 == 2)=((l.getD (k+1) zc).1 == 3))/\(0<n->((l.getD 0 zc).1 == 3)=false)):=by
  intro n hn
  induction n with
  |zero=>simp
  |succ n ih =>
   have ih:=ih (by omega);constructor
   ·intro h;obtain ⟨h1,h2,h3⟩:=ih.1 fun k hk=>h k (by omega)
    have Eg:=h n (by omega);unfold dY at Eg;simp only [Bool.and_eq_true,beq_iff_eq] at Eg;refine ⟨fun k hk=>?_,fun k hk=>?_,fun _=>?_⟩
    ·rcases Nat.lt_or_ge k n with h4 | h4
     ·exact h1 k h4
     ·obtain rfl:k=n:=by omega
      exact Eg.1
    ·rcases Nat.lt_or_ge (k+1) n with h4 | h4
     ·exact h2 k h4
     ·obtain rfl:n=k+1:=by omega
      rw [<-eC];exact Eg.2
    ·rcases Nat.eq_zero_or_pos n with h4 | h4
     ·subst h4;have:=Eg.2;unfold cg at this;rw [if_pos rfl] at this;exact this.symm
     ·exact h3 h4
   ·rintro ⟨h1,h2,h3⟩ k hk
    rcases Nat.lt_or_ge k n with h4 | h4
    ·exact (ih.2 ⟨fun k hk=>h1 k (by omega),fun k hk=>h2 k (by omega),fun h=>h3 (by omega)⟩) k h4
    ·obtain rfl:k=n:=by omega
     unfold dY;rw [h1 k (by omega)];simp only [Bool.true_and,beq_iff_eq]
     cases k with
     |zero=>unfold cg;rw [if_pos rfl,h3 (by omega)]
     |succ k=>rw [eC];exact h2 k (by omega)
 have hs:bz l=true↔(∀ k,k<l.length->dY l k=true)/\cg l l.length=false:=by
  have step:∀ m k,l.length - k=m->k<=l.length->(dI (cg l k) (l.drop k)=true↔(∀ j,k<=j->j<l.length->dY l j=true)/\cg l l.length=false):=by
   intro m
   induction m with
   |zero =>
    intro k hm hk;obtain rfl:k=l.length:=by omega
    rw [List.drop_length];unfold dI;constructor
    ·intro h;exact ⟨fun j h1 h2=>by omega,by simpa using h⟩
    ·rintro ⟨_,h⟩;simpa using h
   |succ m ih =>
    intro k hm hk;rw [gX l k (by omega),Bool.and_eq_true,ih (k+1) (by omega) (by omega)];constructor
    ·rintro ⟨h1,h2,h3⟩;refine ⟨fun j h4 h5=>?_,h3⟩
     rcases Nat.eq_or_lt_of_le h4 with h6 | h6
     ·subst h6;exact h1
     ·exact h2 j h6 h5
    ·rintro ⟨h1,h2⟩;exact ⟨h1 k (Nat.le_refl _) (by omega),fun j h3 h4=>h1 j (by omega) h4,h2⟩
  have:=step l.length 0 (by omega) (Nat.zero_le _);rw [show bz l=dI (cg l 0) (l.drop 0) from rfl,this];constructor
  ·rintro ⟨h1,h2⟩;exact ⟨fun k hk=>h1 k (Nat.zero_le _) hk,h2⟩
  ·rintro ⟨h1,h2⟩;exact ⟨fun k _ hk=>h1 k hk,h2⟩
 have hr:tZ l l.length=true↔∀ k,k<l.length->oJ l k=true:=by
  constructor
  ·intro h k hk;exact oK hk h
  ·intro h;unfold tZ;rw [List.all_eq_true];intro k hk;exact h k (List.mem_range.1 hk)
 have Kz:∀ k:Nat,fK l ((k:Int)+1)=(l.getD (k+1) zc).1:=fun k=>by
  unfold fK;rw [if_neg (by omega),show ((k:Int)+1).toNat=k+1 by omega]
 have hk2:∀ k:Nat,fK l ((k:Int) - 1)=if k=0 then 0 else (l.getD (k - 1) zc).1:=fun k=>by
  unfold fK
  by_cases h:k=0
  ·subst h;rfl
  ·rw [if_neg (by omega),if_neg h,show ((k:Int) - 1).toNat=k - 1 by omega]
 rw [Bool.eq_iff_iff,hs,hr,ind l.length (Nat.le_refl _)];constructor
 ·rintro ⟨⟨h1,h2,h3⟩,h4⟩ k hk;unfold oJ;rw [h1 k hk,Kz,hk2];simp only [Bool.true_and,Bool.and_eq_true,Bool.not_eq_true',Bool.and_eq_false_iff,bne_eq_false_iff_eq,beq_eq_false_iff_ne];refine ⟨?_,?_⟩
  ·by_cases h5:(l.getD k zc).1=2
   ·right
    rcases Nat.lt_or_ge (k+1) l.length with h6 | h6
    ·have:=h2 k h6;rw [h5] at this
     simpa using this.symm
    ·exfalso;have h7:cg l (k+1)=true:=by rw [eC,h5];rfl
     rw [show k+1=l.length by omega,h4] at h7
     cases h7
   ·exact .inl h5
  ·by_cases h5:(l.getD k zc).1=3
   ·right
    cases k with
    |zero =>
     have:=h3 hk;rw [h5] at this
     cases this
    |succ k =>
     have:=h2 k hk;rw [h5] at this;rw [if_neg (by omega)]
     simpa using this
   ·exact .inl h5
 ·intro h;have hx:∀ k,k<l.length->ce (l.getD k zc)=true/\((l.getD k zc).1=2->(l.getD (k+1) zc).1=3)/\((l.getD k zc).1=3->k≠0/\(l.getD (k - 1) zc).1=2):=by
   intro k hk;have h1:=h k hk;unfold oJ at h1;rw [Kz,hk2] at h1;simp only [Bool.and_eq_true,Bool.not_eq_true',Bool.and_eq_false_iff,bne_eq_false_iff_eq,beq_eq_false_iff_ne] at h1;obtain ⟨⟨h1,h2⟩,h3⟩:=h1;refine ⟨h1,fun h4=>?_,fun h4=>?_⟩
   ·rcases h2 with h2 | h2
    ·exact absurd h4 h2
    ·exact h2
   ·rcases h3 with h3 | h3
    ·exact absurd h4 h3
    ·split at h3
     ·cases h3
     ·exact ⟨by assumption,h3⟩
  refine ⟨⟨fun k hk=>(hx k hk).1,fun k hk=>?_,fun h0=>?_⟩,?_⟩
  ·rw [Bool.eq_iff_iff,beq_iff_eq,beq_iff_eq];exact ⟨(hx k (by omega)).2.1,fun h4=>((hx (k+1) hk).2.2 h4).2⟩
  ·rw [beq_eq_false_iff_ne];intro h4;exact ((hx 0 h0).2.2 h4).1 rfl
  ·unfold cg
   split
   ·rfl
   ·rename_i hne
    rw [beq_eq_false_iff_ne];intro h4;have h5:=(hx (l.length - 1) (by omega)).2.1 h4;rw [show l.length - 1+1=l.length by omega,ip _ _ _ (Nat.le_refl _)] at h5
    cases h5
def kC(a b:List Cl):Bool:=decide (a=b)
def ofC(wide:Int)(text:List Int):List Cl :=
 let t:=(text.take 16).map bg
 if t.length=0 then (if 2<=wide then [zc,zc] else [zc]) else if 2<=wide then [(2,t),(3,[])] else [(1,t)]
def cellE:Elem Cl:=prE (aF .i64) (slE (aF .i32))
abbrev Ac:Elem (List Cl):=slE cellE
theorem cell_rep{Z:an}{w:World}{C:List Value}{x:Cl}:cellE.rep Z w C x↔∃ tv,C=[.int .i64 x.1,tv]/\HeldE (aF .i32) Z w tv x.2:=by
 constructor
 ·rintro ⟨C1,C2,rfl,rfl,tv,rfl,h⟩;exact ⟨tv,rfl,h⟩
 ·rintro ⟨tv,rfl,h⟩;exact ⟨[_],[tv],rfl,rfl,tv,rfl,h⟩
theorem fq{Z:an}{w:World}{ao:Option Addr}{n cap:Nat}{L:List Cl}(h:HeldE cellE Z w (.slice ao n cap) L):n=L.length/\n<=cap/\∀ i,i<L.length->∃ b off tv,ao=some ⟨b,off,none⟩/\b<w.heap.size/\Z b /\
  w.cell? ⟨b,off+i * 2,none⟩=some (.int .i64 (L.getD i zc).1)/\w.cell? ⟨b,off+i * 2+1,none⟩=some tv/\HeldE (aF .i32) Z w tv (L.getD i zc).2:=by
 obtain ⟨h1,h2,h3⟩:=h.spots;refine ⟨h1,h2,fun i hi=>?_⟩;obtain ⟨b,off,rfl,hb,hz,C,hC,hr⟩:=h3 i hi;obtain ⟨tv,rfl,ht⟩:=cell_rep.1 hr;exact ⟨b,off,tv,rfl,hb,hz,hC 0 (by decide),hC 1 (by decide),ht⟩
theorem cF:(Tryz.prog.info? 147).map (fun i=>(i.zero,i.size,i.bytes))=some (some (.agg #[.int .i64 0,.slice none 0 0]),cellE.size,32):=by kernel_rfl
theorem nl:(Tryz.prog.info? 21).map (fun i=>(i.zero,i.size,i.bytes))=some (some (.int .i32 0),(aF .i32).size,4):=by kernel_rfl
theorem jz(r:Int)(w:World):Calls Tryz.prog 237 #[.int .i32 r] w fun e w'=>e=.returned (.bool (!bj r))/\w=w':=by
 go_enter Tryz.func237,Tryz.ntmps237
 go_wp2_with fail
 refine (j9 _ _).mono ?_;rintro e w' ⟨rfl,rfl⟩;go_wp2;go_ret;exact ⟨rfl,rfl⟩
def zr(w:World)(b:Bool)(e:Ending)(w':World):Prop:=∃ n:Int,e=.returned (.int .i64 n)/\decide (0<=n)=b/\Below w.heap.size w w'
def xG(t:List Int)(k:Nat):Prop:=∀ j,j<k->bj (t.getD j 0)=true
theorem mz{t:List Int}(h:xG t t.length):cR t=true:=by
 unfold cR;rw [List.all_eq_true];intro x hx;obtain ⟨i,hi,rfl⟩:=List.getElem_of_mem hx;have:=h i hi
 rwa [show t.getD i 0=t[i] from by simp [List.getD,List.getElem?_eq_getElem hi]] at this
theorem l8{t:List Int}{k:Nat}(hk:k<t.length)(h:bj (t.getD k 0)=false):cR t=false:=by
 cases hc:cR t with
 |false=>rfl
 |true =>
  unfold cR at hc;rw [List.all_eq_true] at hc;have:=hc t[k] (List.getElem_mem hk);rw [show t.getD k 0=t[k] from by simp [List.getD,List.getElem?_eq_getElem hk],this] at h
  cases h
theorem oS(v:Value)(t:List Int)(w:World)(ht:Held .i32 w v t)(hl:t.length<=9223372036854775807):Calls Tryz.prog 275 #[v,.func (.func 237) #[] #[]] w (zr w (!cR t)):=by
 obtain ⟨ao,cap,rfl,hc⟩:=ht.view;have HC:=ab hc;clear hc ht
 go_enter Tryz.func275,Tryz.ntmps275
 go_wp2
 go_loopw [8] (fun i wr=>∃ k:Nat,k<=t.length/\i=.int .i64 k/\xG t k/\wr=w) (fun i _=>t.length - (intOf i).toNat)
 case atStart=>exact ⟨0,Nat.zero_le _,rfl,(fun j hj=>by omega),(by first | rfl | trivial)⟩
 case round =>
  obtain ⟨k,hk,rfl,hg,Oj⟩:=hrel;subst Oj;have HG:=ab hg;clear hg
  by_cases hlt:k<t.length
  ·obtain ⟨b,off,rfl,hb,B0⟩:=HC.out k hlt;obtain ⟨x,hx⟩:=ae (t.getD k 0);rw [<-hx] at B0;have HX:=ab hx;clear hx
   cases hv:bj x with
   |true =>
    have HV:=ab hv;clear hv
    go_wp2_with fail
    refine (jz _ _).mono ?_;rintro e w' ⟨rfl,rfl⟩;rw [HV.out];go_wp2
    go_roundw
    case rel=>exact ⟨k+1,by omega,by go_num,(fun j hj=>by
     rcases Nat.lt_or_ge j k with h | h
     ·exact HG.out j h
     ·obtain rfl:j=k:=by omega
      rw [<-HX.out];exact HV.out),(by first | rfl | trivial)⟩
    case measure=>simp [intOf];omega
   |false =>
    have HV:=ab hv;clear hv
    go_wp2_with fail
    refine (jz _ _).mono ?_;rintro e w' ⟨rfl,rfl⟩;rw [HV.out];go_wp2;go_ret;exact ⟨k,rfl,by rw [l8 hlt (by rw [<-HX.out];exact HV.out)];simp,Below.refl _ _⟩
  ·obtain rfl:k=t.length:=by omega
   go_wp2;go_ret;exact ⟨-1,rfl,by rw [mz HG.out];rfl,Below.refl _ _⟩
theorem kO(v:Value)(t:List Int)(w:World)(ht:Held .i32 w v t)(hl:t.length<=9223372036854775807):Calls Tryz.prog 236 #[v,.func (.func 237) #[] #[]] w (Gives w (.bool (!cR t))):=by
 have HI:=ab (oS v t w ht hl);obtain ⟨ao,cap,rfl,_⟩:=ht.view;clear ht;generalize (!cR t)=q at HI ⊢
 go_enter Tryz.func236,Tryz.ntmps236
 go_wp2_with fail
 refine (HI.out).mono ?_;rintro e w' ⟨n,rfl,hn,hb⟩
 cases q with
 |true =>
  have h0:0<=n:=by simpa using hn
  clear hn;go_wp2;go_ret;exact ⟨af,hb⟩
 |false =>
  have h0:n<0:=by simpa using hn
  clear hn;go_wp2;go_ret;exact ⟨af,hb⟩
theorem no{k:Int}{t:List Int}(h:(k == 0 || k == 3)=true):ce (k,t)=((t.length:Int) == 0):=by
 unfold ce;simp only [h,if_true];rw [Bool.eq_iff_iff,beq_iff_eq,beq_iff_eq];omega
theorem rR{k:Int}{t:List Int}(h:k=1\/k=2):ce (k,t)=(decide (0<t.length) && decide (t.length<=16) && cR t):=by
 unfold ce
 rcases h with rfl | rfl <;> rfl
theorem rS{k:Int}{t:List Int}(h0:(k == 0)=false)(h1:(k == 1)=false)(h2:(k == 2)=false)(h3:(k == 3)=false):ce (k,t)=false:=by
 unfold ce;simp only [h0,h1,h2,h3]
 rfl
theorem uH(k:Int)(tv:Value)(t:List Int)(w:World)(ht:Held .i32 w tv t)(hl:t.length<=9223372036854775807):Calls Tryz.prog 192 #[.agg #[.int .i64 k,tv]] w (Gives w (.bool (ce (k,t)))):=by
 have HT:=ab ht;obtain ⟨ao,cap,rfl,_⟩:=ht.view;clear ht;have HB:=ab (AU w (.cells #[.int .i64 k,.slice ao t.length cap] 147))
 by_cases h0:k=0
 ·subst h0;have HR:=ab (no (k:=0) (t:=t) rfl)
  go_enter Tryz.func192,Tryz.ntmps192
  go_wp2;go_ret;exact ⟨al (by rw [HR.out];rfl),HB.out⟩
 by_cases h3:k=3
 ·subst h3;have HR:=ab (no (k:=3) (t:=t) rfl)
  go_enter Tryz.func192,Tryz.ntmps192
  go_wp2;go_ret;exact ⟨al (by rw [HR.out];rfl),HB.out⟩
 by_cases GX:k=1\/k=2
 ·have HR:=ab (rR (t:=t) GX);have Pe:=ab (kO _ t _ (HT.out.below HB.out) hl)
  by_cases hz:0<t.length
  ·by_cases Mt:t.length<=16
   ·generalize cR t=q at HR Pe;have HQ:=ab (show ce (k,t)=q by rw [HR.out,decide_eq_true hz,decide_eq_true Mt];rfl);clear HR
    rcases GX with rfl | rfl
    all_goals
     go_enter Tryz.func192,Tryz.ntmps192
     go_wp2_with fail
     refine (Pe.out).mono ?_;rintro e w' ⟨rfl,hb⟩;have hb2:=HB.out.trans (hb.mono HB.out.size);go_wp2;go_ret;exact ⟨al (by rw [HQ.out];cases q <;> rfl),hb2⟩
   ·have HQ:=ab (show ce (k,t)=false by rw [HR.out,decide_eq_false Mt];simp);clear HR Pe
    rcases GX with rfl | rfl
    all_goals
     go_enter Tryz.func192,Tryz.ntmps192
     go_wp2;go_ret;exact ⟨al (by rw [HQ.out];try rfl),HB.out⟩
  ·have HQ:=ab (show ce (k,t)=false by rw [HR.out,decide_eq_false hz];rfl);have hz0:t.length=0:=by omega
   obtain rfl:t=[]:=List.eq_nil_of_length_eq_zero hz0;simp only [List.length_nil] at HB ⊢;clear HR Pe hz hz0
   rcases GX with rfl | rfl
   all_goals
    go_enter Tryz.func192,Tryz.ntmps192
    go_wp2;go_ret;exact ⟨al (by rw [HQ.out];try rfl),HB.out⟩
 ·have b0:(k == 0)=false:=by simpa using h0
  have b1:(k == 1)=false:=by simp;omega
  have b2:(k == 2)=false:=by simp;omega
  have b3:(k == 3)=false:=by simpa using h3
  have HQ:=ab (rS (t:=t) b0 b1 b2 b3);clear h0 h3 GX
  go_enter Tryz.func192,Tryz.ntmps192
  go_wp2;go_ret;exact ⟨al (by rw [HQ.out];try rfl),HB.out⟩
theorem nm(Z:an)(v:Value)(L:List Cl)(w:World)(hv:HeldE cellE Z w v L):Calls Tryz.prog 134 #[v] w (Gives w (.bool (bz L))):=by
 have hl:=hv.max;obtain ⟨ao,cap,rfl⟩:=hv.len;obtain ⟨_,_,hc⟩:=fq hv;have HC:=ab hc;clear hc hv
 go_enter Tryz.func134,Tryz.ntmps134
 go_wp2
 go_loopw [3,8] (fun ld i wr=>∃ k:Nat,k<=L.length/\i=.int .i64 k/\ld=.bool (cg L k)/\Hid (dI (cg L k) (L.drop k)=bz L)/\Below w.heap.size w wr) (fun _ i _=>L.length - (intOf i).toNat)
 case atStart=>exact ⟨0,Nat.zero_le _,rfl,rfl,ab rfl,Below.refl _ _⟩
 case round =>
  obtain ⟨k,hk,rfl,rfl,HP,AY⟩:=hrel;have Bf:=ab AY;clear AY
  by_cases hlt:k<L.length
  ·obtain ⟨b,off,tv,rfl,hb,_,c0,c1,hh⟩:=HC.out k hlt;have E7:=hh.max;have hh:=hh.ints.below Bf.out;have c0:=(Bf.out.cell (p:=⟨b,off+k * 2,none⟩) hb).trans c0;have c1:=(Bf.out.cell (p:=⟨b,off+k * 2+1,none⟩) hb).trans c1;have hs:=eC L k;have JZ:=rC hlt HP.out;have Gy:=pM hlt HP.out;unfold dY at JZ Gy;obtain ⟨⟨K,T⟩,EV⟩ : ∃ y,y=L.getD k zc:=⟨_,rfl⟩;rw [<-EV] at c0 hh E7 hs JZ Gy;simp only at c0 hh E7 hs JZ Gy;have Co:=ab Gy;have Jm:=ab JZ;have HS:=ab hs;have O1:=ab hh;clear EV Gy JZ hs hh HP;obtain ⟨tz9,tc,rfl,_⟩:=O1.out.view;obtain ⟨wk,Kt⟩:=ae (wr);have Bt:=ab (AU wr (.cells #[.int .i64 K,.slice tz9 T.length tc] 147));have HR:=ab (uH K _ T _ (O1.out.below Bt.out) E7);generalize cg L k=ld at *
   cases hr:ce (K,T) with
   |false =>
    rw [hr] at HR Jm;clear Co
    go_wp2_with fail
    refine HR.out.mono ?_;rintro e w2 ⟨rfl,hb2⟩;have hb3:=Bf.out.trans ((Bt.out.trans (hb2.mono Bt.out.size)).mono Bf.out.size);go_wp2;go_ret;exact ⟨al (by rw [Jm.out (by simp)];try rfl),hb3⟩
   |true =>
    rw [hr] at HR Jm Co;have Mh:(K=3/\(K == 3)=true/\(K == 2)=false)\/((K == 3)=false/\K=2/\(K == 2)=true)\/((K == 3)=false/\(K == 2)=false):=by
     by_cases h3:K=3
     ·exact .inl ⟨h3,by simpa using h3,by simp;omega⟩
     ·by_cases h2:K=2
      · exact .inr (.inl ⟨by simpa using h3,h2,by simpa using h2⟩)
      · exact .inr (.inr ⟨by simpa using h3,by simpa using h2⟩)
    rcases Mh with ⟨Ex,hk3,hk2⟩ | ⟨hk3,Ex,hk2⟩ | ⟨hk3,hk2⟩ <;> cases ld
    all_goals
     rw [hk3] at Jm Co;rw [hk2] at HS;have BY:=ab (show ∀ w2,Below (wr.alloc (.cells #[.int .i64 K,.slice tz9 T.length tc] 147)).heap.size (wr.alloc (.cells #[.int .i64 K,.slice tz9 T.length tc] 147)) w2->w2.cell? ⟨wr.heap.size,0,none⟩=some (.int .i64 K)/\Below w.heap.size w w2 from fun w2 h=>⟨(h.cell (p:=⟨wr.heap.size,0,none⟩) (by simp)).trans (by rw [cell_of_row _ wr.heap.size 0 _ _ (0,0) (heap_alloc_new wr _)];rfl),Bf.out.trans ((Bt.out.trans (h.mono Bt.out.size)).mono Bf.out.size)⟩)
     try subst Ex
     go_wp2_with fail
     refine HR.out.mono ?_;rintro e w2 ⟨rfl,hb2⟩;obtain ⟨hcc,hb3⟩:=BY.out w2 hb2;clear hb2;go_wp2
    all_goals first
     |(go_ret;exact ⟨al (by rw [Jm.out (by rfl)];try rfl),hb3⟩)
     |(go_roundw
       case rel=>exact ⟨k+1,by omega,by go_num,by rw [HS.out],ab (Co.out rfl),hb3⟩
       case measure=>simp [intOf] <;> omega)
  ·obtain rfl:k=L.length:=by omega
   have HE:=ab (rD HP.out);clear HP;generalize cg L L.length=ld at *;go_wp2;go_ret;exact ⟨al (by rw [HE.out];try rfl),Bf.out⟩
theorem ry(L:List Cl):bz L=true↔∀ i,i<L.length->ce (L.getD i zc)=true/\((L.getD i zc).1=2->(L.getD (i+1) zc).1=3)/\((L.getD i zc).1=3->0<i/\(L.getD (i - 1) zc).1=2):=by
 have Kz:∀ k:Nat,fK L ((k:Int)+1)=(L.getD (k+1) zc).1:=fun k=>by
  unfold fK;rw [if_neg (by omega),show ((k:Int)+1).toNat=k+1 by omega]
 have hk2:∀ k:Nat,fK L ((k:Int) - 1)=if k=0 then 0 else (L.getD (k - 1) zc).1:=fun k=>by
  unfold fK
  by_cases h:k=0
  ·subst h;rfl
  ·rw [if_neg (by omega),if_neg h,show ((k:Int) - 1).toNat=k - 1 by omega]
 have one:∀ i,oJ L i=true↔ce (L.getD i zc)=true/\((L.getD i zc).1=2->(L.getD (i+1) zc).1=3)/\((L.getD i zc).1=3->0<i/\(L.getD (i - 1) zc).1=2):=by
  intro i;unfold oJ;rw [Kz,hk2];simp only [Bool.and_eq_true,Bool.not_eq_true',Bool.and_eq_false_iff,bne_eq_false_iff_eq,beq_eq_false_iff_ne];constructor
  ·rintro ⟨⟨h1,h2⟩,h3⟩;refine ⟨h1,fun h=>?_,fun h=>?_⟩
   ·rcases h2 with h2 | h2
    ·exact absurd h h2
    ·exact h2
   ·rcases h3 with h3 | h3
    ·exact absurd h h3
    ·split at h3
     ·cases h3
     ·exact ⟨by omega,h3⟩
  ·rintro ⟨h1,h2,h3⟩;refine ⟨⟨h1,?_⟩,?_⟩
   ·by_cases h:(L.getD i zc).1=2
    ·exact .inr (h2 h)
    ·exact .inl h
   ·by_cases h:(L.getD i zc).1=3
    ·obtain ⟨h4,h5⟩:=h3 h;rw [if_neg (by omega)];exact .inr h5
    ·exact .inl h
 rw [mW];constructor
 ·intro h i hi;exact (one i).1 (oK hi h)
 ·intro h;unfold tZ;rw [List.all_eq_true];intro i hi;exact (one i).2 (h i (List.mem_range.1 hi))
def inP(a m i:Nat):Prop:=a<=i/\i<a+m
instance (a m i:Nat):Decidable (inP a m i):=by unfold inP;infer_instance
def bW(L:List Cl)(a m i:Nat):Prop:=((L.getD i zc).1=2/\inP a m (i+1))\/((L.getD i zc).1=3/\0<i/\inP a m (i - 1))
instance (L:List Cl) (a m i:Nat):Decidable (bW L a m i):=by unfold bW;infer_instance
def bO(L p:List Cl)(a i:Nat):Cl:=if inP a p.length i then p.getD (i - a) zc else if bW L a p.length i then zc else L.getD i zc
def aN(L p:List Cl)(a:Nat):List Cl:=(List.range L.length).map (bO L p a)
def a8(L p:List Cl)(a:Nat):Bool:=decide (inP a p.length (L.length - 1)) || decide (bW L a p.length (L.length - 1))
theorem bR(L p:List Cl)(a:Nat):(aN L p a).length=L.length:=by simp [aN]
theorem dw(L p:List Cl)(a i:Nat)(h:i<L.length):(aN L p a).getD i zc=bO L p a i:=by simp [aN,List.getD,h]
theorem rz(L:List Cl)(a:Nat):aN L [] a=L:=by
 apply List.ext_getElem
 ·simp [aN]
 ·intro i h1 h2;simp only [aN,List.getElem_map,List.getElem_range];unfold bO;have n1:¬ inP a ([]:List Cl).length i:=by unfold inP;simp only [List.length_nil];omega
  have n2:¬ bW L a ([]:List Cl).length i:=by unfold bW inP;simp only [List.length_nil];omega
  rw [if_neg n1,if_neg n2]
  simp [List.getD,List.getElem?_eq_getElem h2]
theorem oI(L:List Cl)(a:Nat):a8 L [] a=false:=by
 have n1:¬ inP a ([]:List Cl).length (L.length - 1):=by unfold inP;simp only [List.length_nil];omega
 have n2:¬ bW L a ([]:List Cl).length (L.length - 1):=by unfold bW inP;simp only [List.length_nil];omega
 unfold a8;rw [decide_eq_false n1,decide_eq_false n2]
 rfl
theorem pJ{L p:List Cl}{a:Nat}(hL:bz L=true)(hp:bz p=true)(hle:a+p.length<=L.length):bz (aN L p a)=true:=by
 rw [ry] at hL hp ⊢;rw [bR];intro i hi;have out:∀ j,L.length<=j->(aN L p a).getD j zc=zc:=fun j hj=>ip _ _ _ (by rw [bR];exact hj)
 have outL:∀ j,L.length<=j->L.getD j zc=zc:=fun j hj=>ip _ _ _ hj
 have outp:∀ j,p.length<=j->p.getD j zc=zc:=fun j hj=>ip _ _ _ hj
 rw [dw L p a i hi];unfold bO
 by_cases Ce:inP a p.length i
 ·rw [if_pos Ce];obtain ⟨h1,h2⟩:=Ce;obtain ⟨r1,r2,r3⟩:=hp (i - a) (by omega);refine ⟨r1,fun h=>?_,fun h=>?_⟩
  ·have h3:=r2 h;have h4:i - a+1<p.length:=by
    rcases Nat.lt_or_ge (i - a+1) p.length with h | h
    ·exact h
    ·rw [outp _ h] at h3;cases h3
   rw [dw L p a (i+1) (by omega)];unfold bO;rw [if_pos ⟨by omega,by omega⟩,show i+1 - a=i - a+1 by omega];exact h3
  ·obtain ⟨h3,h4⟩:=r3 h;refine ⟨by omega,?_⟩;rw [dw L p a (i - 1) (by omega)];unfold bO;rw [if_pos ⟨by omega,by omega⟩,show i - 1 - a=i - a - 1 by omega];exact h4
 ·rw [if_neg Ce]
  by_cases ht:bW L a p.length i
  ·rw [if_pos ht];exact ⟨by decide,fun h=>absurd h (by decide),fun h=>absurd h (by decide)⟩
  ·rw [if_neg ht];obtain ⟨r1,r2,r3⟩:=hL i hi;refine ⟨r1,fun h=>?_,fun h=>?_⟩
   ·have h3:=r2 h;have h4:i+1<L.length:=by
     rcases Nat.lt_or_ge (i+1) L.length with h | h
     ·exact h
     ·rw [outL _ h] at h3;cases h3
    rw [dw L p a (i+1) h4];unfold bO;have n1:¬ inP a p.length (i+1):=fun k=>ht (.inl ⟨h,k⟩)
    have n2:¬ bW L a p.length (i+1):=by
     rintro (⟨k,_⟩ | ⟨_,_,k⟩)
     ·rw [h3] at k;cases k
     ·exact Ce (by simpa using k)
    rw [if_neg n1,if_neg n2];exact h3
   ·obtain ⟨h3,h4⟩:=r3 h;refine ⟨h3,?_⟩;rw [dw L p a (i - 1) (by omega)];unfold bO;have n1:¬ inP a p.length (i - 1):=fun k=>ht (.inr ⟨h,h3,k⟩)
    have n2:¬ bW L a p.length (i - 1):=by
     rintro (⟨_,k⟩ | ⟨k,_,_⟩)
     ·exact Ce (by rwa [show i - 1+1=i by omega] at k)
     ·rw [h4] at k;cases k
    rw [if_neg n1,if_neg n2];exact h4
def fV(L:List Cl)(a:Nat):Bool:=decide (0<a) && (L.getD (a - 1) zc).1 == 2
def dQ(L:List Cl)(e:Nat):Bool:=decide (e<L.length) && (L.getD e zc).1 == 3
def fB(L:List Cl)(a:Nat):List Cl:=if fV L a=true then L.set (a - 1) zc else L
def kB(L:List Cl)(a m:Nat):List Cl:=if dQ L (a+m)=true then (fB L a).set (a+m) zc else fB L a
def fC(L p:List Cl)(a k:Nat):List Cl:=(List.range L.length).map fun i=>if inP a k i then p.getD (i - a) zc else (kB L a p.length).getD i zc
theorem j8(L:List Cl)(a:Nat):(fB L a).length=L.length:=by unfold fB;split <;> simp
theorem tV(L:List Cl)(a m:Nat):(kB L a m).length=L.length:=by unfold kB;split <;> simp [j8]
theorem tW(L p:List Cl)(a k:Nat):(fC L p a k).length=L.length:=by simp [fC]
theorem pK{α:Type}(l:List α)(d x:α)(i j:Nat):(l.set i x).getD j d=if i=j/\j<l.length then x else l.getD j d:=by
 simp only [List.getD,List.getElem?_set]
 split
 ·rename_i h
  subst h
  by_cases h2:i<l.length
  ·simp [h2]
  ·simp [h2]
 ·rename_i h
  rw [if_neg (fun k=>h k.1)]
theorem pL(L:List Cl)(a i:Nat):(fB L a).getD i zc=if fV L a=true/\i=a - 1 then zc else L.getD i zc:=by
 unfold fB
 split
 ·rename_i h
  rw [pK]
  by_cases e:a - 1=i
  ·by_cases hl:i<L.length
   ·rw [if_pos ⟨e,hl⟩,if_pos ⟨h,e.symm⟩]
   ·rw [if_neg (fun k=>hl k.2),ip _ _ _ (by omega)]
    split <;> rfl
  ·rw [if_neg (fun k=>e k.1),if_neg (fun k=>e k.2.symm)]
 ·rename_i h
  rw [if_neg (fun k=>h k.1)]
theorem wO(L:List Cl)(a m i:Nat):(kB L a m).getD i zc=if dQ L (a+m)=true/\i=a+m then zc else (fB L a).getD i zc:=by
 unfold kB
 split
 ·rename_i h
  rw [pK,j8]
  by_cases e:a+m=i
  ·by_cases hl:i<L.length
   ·rw [if_pos ⟨e,hl⟩,if_pos ⟨h,e.symm⟩]
   ·rw [if_neg (fun k=>hl k.2),ip (fB L a) _ _ (by rw [j8];omega)]
    split <;> rfl
  ·rw [if_neg (fun k=>e k.1),if_neg (fun k=>e k.2.symm)]
 ·rename_i h
  rw [if_neg (fun k=>h k.1)]
theorem rA(L p:List Cl)(a:Nat):fC L p a 0=kB L a p.length:=by
 apply List.ext_getElem
 ·simp [fC,tV]
 ·intro i h1 h2;simp only [fC,List.getElem_map,List.getElem_range];rw [if_neg (by unfold inP;omega)]
  simp [List.getD,List.getElem?_eq_getElem h2]
theorem rB(L p:List Cl)(a k:Nat):fC L p a (k+1)=(fC L p a k).set (a+k) (p.getD k zc):=by
 apply List.ext_getElem
 ·simp [fC]
 ·intro i h1 h2;rw [List.getElem_set];simp only [fC,List.getElem_map,List.getElem_range]
  by_cases e:a+k=i
  ·subst e;rw [if_pos rfl,if_pos ⟨by omega,by omega⟩,show a+k - a=k by omega]
  ·rw [if_neg e]
   by_cases h:inP a k i
   ·rw [if_pos h,if_pos ⟨h.1,by have:=h.2;omega⟩]
   ·rw [if_neg h,if_neg (fun k2=>h ⟨k2.1,by have:=k2.2;omega⟩)]
theorem tX{L p:List Cl}{a:Nat}(hm:0<p.length)(hle:a+p.length<=L.length):fC L p a p.length=aN L p a:=by
 unfold fC aN
 apply List.map_congr_left
 intro i hi;have hi:i<L.length:=List.mem_range.1 hi;unfold bO
 by_cases h:inP a p.length i
 ·rw [if_pos h,if_pos h]
 ·rw [if_neg h,if_neg h,wO,pL]
  by_cases ht:bW L a p.length i
  ·rw [if_pos ht]
   rcases ht with ⟨h1,h2,h3⟩ | ⟨h1,h2,h3,h4⟩
   ·have e:i+1=a:=by
     have:¬ (a<=i/\i<a+p.length):=h;omega
    have hl:fV L a=true:=by
     unfold fV;rw [show a - 1=i by omega,h1,decide_eq_true (show 0<a by omega)]
     rfl
    split
    ·rfl
    ·rw [if_pos ⟨hl,by omega⟩]
   ·have e:i=a+p.length:=by
     have:¬ (a<=i/\i<a+p.length):=h;omega
    have hl:dQ L (a+p.length)=true:=by
     unfold dQ;rw [<-e,h1,decide_eq_true hi]
     rfl
    rw [if_pos ⟨hl,e⟩]
  ·rw [if_neg ht];rw [if_neg,if_neg]
   ·rintro ⟨h1,rfl⟩;unfold fV at h1;simp only [Bool.and_eq_true,decide_eq_true_eq,beq_iff_eq] at h1;exact ht (.inl ⟨h1.2,by unfold inP;omega⟩)
   ·rintro ⟨h1,rfl⟩;unfold dQ at h1;simp only [Bool.and_eq_true,decide_eq_true_eq,beq_iff_eq] at h1;exact ht (.inr ⟨h1.2,by omega,by unfold inP;omega⟩)
theorem tY{L:List Cl}{a m:Nat}(hm:0<m):((fB L a).getD (a+m) zc).1=(L.getD (a+m) zc).1:=by
 rw [pL,if_neg];rintro ⟨_,h⟩;omega
def wP(L:List Cl)(a m:Nat):Nat:=if dQ L (a+m)=true then a+m+1 else a+m
theorem wQ{L p:List Cl}{a:Nat}(hm:0<p.length)(hle:a+p.length<=L.length):(decide (wP L a p.length=L.length))=a8 L p a:=by
 unfold wP a8;rw [Bool.eq_iff_iff];simp only [Bool.or_eq_true,decide_eq_true_eq];constructor
 ·intro h
  split at h
  ·rename_i ht
   unfold dQ at ht;simp only [Bool.and_eq_true,decide_eq_true_eq,beq_iff_eq] at ht
   right
   refine .inr ⟨by rw [show L.length - 1=a+p.length by omega];exact ht.2,by omega,by unfold inP;omega⟩
  ·exact .inl ⟨by omega,by omega⟩
 ·rintro (⟨h1,h2⟩ | h)
  ·rw [if_neg (by unfold dQ;simp;omega)];omega
  ·by_cases Ce:inP a p.length (L.length - 1)
   ·obtain ⟨h1,h2⟩:=Ce;rw [if_neg (by unfold dQ;simp;omega)];omega
   ·have hin':¬ (a<=L.length - 1/\L.length - 1<a+p.length):=Ce
    rcases h with ⟨h1,h2,h3⟩ | ⟨h1,h2,h3,h4⟩
    ·omega
    ·have e:L.length - 1=a+p.length:=by omega
     rw [if_pos (by unfold dQ;rw [<-e,h1,decide_eq_true (show L.length - 1<L.length by omega)];rfl)];omega
theorem rX(x:Int):bj (bg x)=true:=by
 unfold bg
 by_cases h:bj x=true
 ·rw [if_pos h];exact h
 ·rw [if_neg h];decide
theorem xJ(xs:List Int):cR (xs.map bg)=true:=by
 unfold cR;rw [List.all_eq_true];intro y hy;obtain ⟨x,_,rfl⟩:=List.mem_map.1 hy;exact rX x
theorem oT(wide:Int)(xs:List Int):(ofC wide xs).length=if 2<=wide then 2 else 1:=by
 unfold ofC;simp only
 split <;> split <;> rfl
theorem uN(wide:Int)(xs:List Int):bz (ofC wide xs)=true:=by
 have hv:=xJ (xs.take 16);have hl:((xs.take 16).map bg).length<=16:=by simp;omega
 unfold ofC;generalize (xs.take 16).map bg=t at hv hl;simp only
 by_cases h0:t.length=0
 ·rw [if_pos h0]
  split <;> decide
 ·rw [if_neg h0];have r1:ce (1,t)=true:=by
   unfold ce
   simp [hv]
   omega
  have r2:ce (2,t)=true:=by
   unfold ce
   simp [hv]
   omega
  split
  ·unfold bz
   simp [dI,r2]
   decide
  ·unfold bz
   simp [dI,r1]
theorem jt(r:Int)(w:World):Calls Tryz.prog 75 #[.int .i32 r] w fun e w'=>e=.returned (.bool (bj r))/\w=w':=by
 have hv:(bj r=true/\0<=r/\r<=1114111/\r<55296)\/(bj r=true/\0<=r/\r<=1114111/\¬ r<55296/\57343<r)\/(bj r=false/\¬ 0<=r)\/(bj r=false/\0<=r/\¬ r<=1114111)\/(bj r=false/\0<=r/\r<=1114111/\¬ r<55296/\¬ 57343<r):=by
  unfold bj;simp;omega
 rcases hv with ⟨hv,h1,h2,h3⟩ | ⟨hv,h1,h2,h3,h4⟩ | ⟨hv,h1⟩ | ⟨hv,h1,h2⟩ | ⟨hv,h1,h2,h3,h4⟩
 all_goals
  rw [hv];clear hv
  go_enter Tryz.func75,Tryz.ntmps75
  go_wp2;go_ret;exact ⟨rfl,rfl⟩
def gY(xs ys:List Int):Bool:=decide (xs=ys)
theorem wR{xs ys:List Int}(hl:ys.length=xs.length)(h:∀ j,j<xs.length->xs.getD j 0=ys.getD j 0):gY xs ys=true:=by
 unfold gY;rw [decide_eq_true_eq]
 apply List.ext_getElem hl.symm
 intro i h1 h2;have:=h i h1
 simpa [List.getD,List.getElem?_eq_getElem h1,List.getElem?_eq_getElem h2] using this
theorem ug{xs ys:List Int}(j:Nat)(h:xs.getD j 0≠ys.getD j 0):gY xs ys=false:=by
 unfold gY;rw [decide_eq_false_iff_not];rintro rfl;exact h rfl
theorem uh{xs ys:List Int}(h:¬ ys.length=xs.length):gY xs ys=false:=by
 unfold gY;rw [decide_eq_false_iff_not];rintro rfl;exact h rfl
theorem lM(xs:List Int):gY xs xs=true:=by simp [gY]
def wS(xs ys:List Int)(k:Nat):Prop:=∀ j,j<k->xs.getD j 0=ys.getD j 0
theorem lN(v u:Value)(xs ys:List Int)(w:World)(hx:Held .i32 w v xs)(hy:Held .i32 w u ys)(hlen:xs.length<=9223372036854775807) :
  Calls Tryz.prog 21 #[v,u] w (Gives w (.bool (gY xs ys))):=by
 obtain ⟨ao,ca,rfl,hc⟩:=hx.view;obtain ⟨bo,cb,rfl,hd⟩:=hy.view;have HC:=ab hc;have HD:=ab hd;clear hc hd hx hy
 by_cases hl:ys.length=xs.length
 ·have HL:=ab hl;rw [hl];clear hl
  go_enter Tryz.func21,Tryz.ntmps21
  go_wp2
  go_loopw [5] (fun i wr=>∃ k:Nat,k<=xs.length/\i=.int .i64 k/\wS xs ys k/\Below w.heap.size w wr) (fun i _=>xs.length - (intOf i).toNat)
  case atStart=>exact ⟨0,Nat.zero_le _,rfl,(fun j hj=>by omega),Below.refl _ _⟩
  case round =>
   obtain ⟨k,hk,rfl,J4,AY⟩:=hrel;have HA:=ab J4;clear J4
   by_cases hlt:k<xs.length
   ·obtain ⟨b1,o1,rfl,hb1,B0⟩:=HC.out k hlt;obtain ⟨b2,o2,rfl,hb2,Ox⟩:=HD.out k (by rw [HL.out];exact hlt);have B0:=(AY.cell (p:=⟨b1,o1+k,none⟩) hb1).trans B0;have Ox:=(AY.cell (p:=⟨b2,o2+k,none⟩) hb2).trans Ox
    by_cases he:xs.getD k 0=ys.getD k 0
    ·have HE:wS xs ys (k+1):=by
      intro j hj
      by_cases h:j=k
      ·subst h;exact he
      ·exact HA.out j (by omega)
     rw [<-he] at Ox;clear he;generalize xs.getD k 0=x at B0 Ox;go_wp2
     go_quiet (fail)
     have AY:=AY.drewN nq;go_wp2
     go_roundw
     case rel=>exact ⟨k+1,by omega,by go_num,HE,AY⟩
     case measure=>simp [intOf];omega
    ·have E:=ab (ug k he);generalize xs.getD k 0=x at B0 he;generalize ys.getD k 0=y at Ox he;go_wp2
     go_quiet (fail)
     have AY:=AY.drewN nq;go_wp2;go_ret;exact ⟨al (by rw [E.out];rfl),AY⟩
   ·have e:gY xs ys=true:=wR HL.out (fun j hj=>HA.out j (by omega));have E:=ab e;clear e;go_wp2;go_ret;exact ⟨al (by rw [E.out];rfl),AY⟩
 ·rw [uh hl]
  go_enter Tryz.func21,Tryz.ntmps21
  go_wp2;go_ret;exact ⟨rfl,Below.refl _ _⟩
theorem xH{a b:List Cl}(hl:b.length=a.length)(h:∀ j,j<a.length->a.getD j zc=b.getD j zc):kC a b=true:=by
 unfold kC;rw [decide_eq_true_eq]
 apply List.ext_getElem hl.symm
 intro i h1 h2;have:=h i h1
 simpa [List.getD,List.getElem?_eq_getElem h1,List.getElem?_eq_getElem h2] using this
theorem uI{a b:List Cl}(j:Nat)(h:a.getD j zc≠b.getD j zc):kC a b=false:=by
 unfold kC;rw [decide_eq_false_iff_not];rintro rfl;exact h rfl
theorem uJ{a b:List Cl}(h:¬ b.length=a.length):kC a b=false:=by
 unfold kC;rw [decide_eq_false_iff_not];rintro rfl;exact h rfl
def AlikeC(a b:List Cl)(k:Nat):Prop:=∀ j,j<k->a.getD j zc=b.getD j zc
theorem AlikeC.next{a b:List Cl}{k:Nat}(h:AlikeC a b k)(e:a.getD k zc=b.getD k zc):AlikeC a b (k+1):=by
 intro j hj
 by_cases h2:j=k
 ·subst h2;exact e
 ·exact h j (by omega)
theorem rT(Z Y:an)(v u:Value)(a b:List Cl)(w:World)(hx:HeldE cellE Z w v a)(hy:HeldE cellE Y w u b):Calls Tryz.prog 146 #[v,u] w (Gives w (.bool (kC a b))):=by
 have Pa:=hx.max;obtain ⟨ao,ca,rfl⟩:=hx.len;obtain ⟨bo,cb,rfl⟩:=hy.len;obtain ⟨_,_,hc⟩:=fq hx;obtain ⟨_,_,hd⟩:=fq hy;have HC:=ab hc;have HD:=ab hd;clear hc hd hx hy
 by_cases hl:b.length=a.length
 ·have HL:=ab hl;rw [hl];clear hl
  go_enter Tryz.func146,Tryz.ntmps146
  go_wp2
  go_loopw [5] (fun i wr=>∃ k:Nat,k<=a.length/\i=.int .i64 k/\AlikeC a b k/\Below w.heap.size w wr) (fun i _=>a.length - (intOf i).toNat)
  case atStart=>exact ⟨0,Nat.zero_le _,rfl,(fun j hj=>by omega),Below.refl _ _⟩
  case round =>
   obtain ⟨k,hk,rfl,J4,AY⟩:=hrel;have HA:=ab J4;have Bf:=ab AY;clear J4 AY
   by_cases hlt:k<a.length
   ·obtain ⟨b1,o1,tv,rfl,hb1,_,c0,c1,hh⟩:=HC.out k hlt;obtain ⟨b2,o2,tu,rfl,hb2,_,d0,d1,hi⟩:=HD.out k (by rw [HL.out];exact hlt);have hlen:=hh.max;have hh:=hh.ints;have hi:=hi.ints;have c0:=(Bf.out.cell (p:=⟨b1,o1+k * 2,none⟩) hb1).trans c0;have c1:=(Bf.out.cell (p:=⟨b1,o1+k * 2+1,none⟩) hb1).trans c1;have d0:=(Bf.out.cell (p:=⟨b2,o2+k * 2,none⟩) hb2).trans d0;have d1:=(Bf.out.cell (p:=⟨b2,o2+k * 2+1,none⟩) hb2).trans d1;have Jw:=HA.out.next;have hno:=uI (a:=a) (b:=b) k;obtain ⟨⟨K,T⟩,EV⟩ : ∃ y,y=a.getD k zc:=⟨_,rfl⟩;obtain ⟨⟨K',T'⟩,J0⟩ : ∃ y,y=b.getD k zc:=⟨_,rfl⟩;rw [<-EV] at c0 hh hlen Jw hno;rw [<-J0] at d0 hi Jw hno;simp only at c0 hh hlen d0 hi;have HH:=ab (hh.below Bf.out);have HI:=ab (hi.below Bf.out);have Co:=ab Jw;have OA:=ab hno;clear EV J0 hh hi Jw hno;obtain ⟨wk,Kt⟩:=ae (wr);subst Kt;have c0:=aj c0;have c1:=aj c1;have d0:=aj d0;have d1:=aj d1
    by_cases hk:K=K'
    ·subst hk;have EU:(K != K)=false:=by simp
     have HQ:=ab (fun u:Growth wk=>lN tv tu T T' (ext wk u) (HH.out.below u.ok) (HI.out.below u.ok) hlen)
     cases hs:gY T T' with
     |true =>
      have HS:=ab hs;rw [hs] at HQ;clear hs;go_wp2;refine aJ (by kernel_rfl) (by kernel_rfl) ?_
      repeat (go_big_quiet_step (((go_at_call 21;exact ei (HQ.out _)))))
      refine wpQuiet_nil ?_;intro _ hw';obtain ⟨u,hw''⟩:=hw';subst hw'';have HE:=ab (aU Bf.out u);go_wp2
      go_roundw
      case rel=>exact ⟨k+1,by omega,by go_num,Co.out (by have:=of_decide_eq_true HS.out;rw [this]),HE.out⟩
      case measure=>simp [intOf];omega
     |false =>
      have HS:=ab hs;rw [hs] at HQ;clear hs;go_wp2;refine aJ (by kernel_rfl) (by kernel_rfl) ?_
      repeat (go_big_quiet_step (((go_at_call 21;exact ei (HQ.out _)))))
      refine wpQuiet_nil ?_;intro _ hw';obtain ⟨u,hw''⟩:=hw';subst hw'';have HE:=ab (aU Bf.out u);go_wp2;go_ret;exact ⟨al (by rw [OA.out (fun e=>of_decide_eq_false HS.out (congrArg Prod.snd e))];try rfl),HE.out⟩
    ·have EU:(K != K')=true:=by simpa using hk
     have HK:=ab hk;clear hk;go_wp2;refine aJ (by kernel_rfl) (by kernel_rfl) ?_
     repeat (go_big_quiet_step ((fail)))
     refine wpQuiet_nil ?_;intro _ hw';obtain ⟨u,hw''⟩:=hw';subst hw'';have HE:=ab (aU Bf.out u);go_wp2;go_ret;exact ⟨al (by rw [OA.out (fun e=>HK.out (congrArg Prod.fst e))];try rfl),HE.out⟩
   ·obtain rfl:k=a.length:=by omega
    have E:=ab (xH HL.out HA.out);go_wp2;go_ret;exact ⟨al (by rw [E.out];try rfl),Bf.out⟩
 ·have E:=ab (uJ hl);have hl2:¬ a.length=b.length:=fun h=>hl h.symm
  go_enter Tryz.func146,Tryz.ntmps146
  go_wp2;go_ret;exact ⟨al (by rw [E.out];try rfl),Below.refl _ _⟩
end Go.Proofs.YtoeggiplcaegoaaGreatDoor
