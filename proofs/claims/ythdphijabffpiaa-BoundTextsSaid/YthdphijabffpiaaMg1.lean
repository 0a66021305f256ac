import Derived.Test.YthdphijabffpiaaZ0
import Derived.Handy
import Derived.Laws.BytesArg
import Derived.Laws.AppendOwnNone
import Derived.Lib.Hide
import Derived.Deep.QuietTactic
import Derived.BigQuiet
import Derived.OpenShut
import Derived.Deep.RegionWith
import Derived.WalkSpells
import Derived.Test.YthdphijabffpiaaProg
import Derived.Lib.LazyBuf
import Derived.Carry
import Derived.LaidMore
import Derived.LaidHandle
import Derived.Stop.Joined
import Derived.StillTail
import Derived.Below
import Derived.Laws.Tables
import Derived.Laws.Rows
import Derived.Deep.WholeRow
import Derived.Laws.AppendOwn
import Derived.OneCell
import Derived.Laws.OwnMore
import Derived.Deep.Slices
import Derived.Deep.Strs
import Derived.KernelRfl
import Derived.OwnWalkIn
import Derived.OrdersIn
import Derived.RangeFuncCalls
import Derived.Deep.MidRow
import Derived.RangeFuncNested
import Derived.RangeFuncBound
import Derived.RangeFuncLeaves
import Derived.WalkKit
import Derived.TacticsInMore
import Derived.LoopNIn
import Derived.LoopIn
import Derived.Shelf.Abstract
import Derived.Shelf.RegionOpen
import Derived.Lib.SmallJoins
set_option maxRecDepth 100000
set_option linter.unusedVariables false
set_option linter.unusedSimpArgs false
set_option maxHeartbeats 400000
namespace Go.Proofs.Ythdphijabffpiaa
open Go.RowKit Go.ChangeShapes Go.WideShapes
theorem az{a b:Value}(h:a=b):Ending.returned a=.returned b:=by rw [h]
def Held(k:IntKind)(w:World)(v:Value)(xs:List Int):Prop :=
 ∃ ao cap,v=.slice ao xs.length cap/\(ao=none->xs=[]/\cap=0)/\∀ i,i<xs.length->∃ b off,ao=some ⟨b,off,none⟩/\b<w.heap.size/\w.cell? ⟨b,off+i,none⟩=some (.int k (xs.getD i 0))
theorem Held.nil(k:IntKind)(w:World):Held k w (.slice none 0 0) []:=⟨none,0,rfl,fun _=>⟨rfl,rfl⟩,fun i hi=>by simp at hi⟩
theorem en{k:IntKind}{w:World}{b off cap:Nat}{xs:List Int}(hlt:b<w.heap.size)(hc:∀ i,i<xs.length->w.cell? ⟨b,off+i,none⟩=some (.int k (xs.getD i 0))):Held k w (.slice (some ⟨b,off,none⟩) xs.length cap) xs :=
 ⟨_,cap,rfl,(fun h=>by cases h),fun i hi=>⟨b,off,rfl,hlt,hc i hi⟩⟩
theorem Held.below{k:IntKind}{w w':World}{v:Value}{xs:List Int}(h:Held k w v xs)(hb:Below w.heap.size w w'):Held k w' v xs:=by
 obtain ⟨ao,cap,rfl,hn,hc⟩:=h;refine ⟨ao,cap,rfl,hn,fun i hi=>?_⟩;obtain ⟨b,off,rfl,hlt,hcell⟩:=hc i hi;exact ⟨b,off,rfl,by have:=hb.size;omega,(hb.cell (p:=⟨b,off+i,none⟩) hlt).trans hcell⟩
theorem Held.len{k:IntKind}{w:World}{v:Value}{xs:List Int}(h:Held k w v xs):∃ ao cap,v=.slice ao xs.length cap:=by
 obtain ⟨ao,cap,rfl,_⟩:=h;exact ⟨ao,cap,rfl⟩
theorem Held.view{k:IntKind}{w:World}{v:Value}{xs:List Int}(h:Held k w v xs) :
  ∃ ao cap,v=.slice ao xs.length cap/\∀ i,i<xs.length->∃ b off,ao=some ⟨b,off,none⟩/\b<w.heap.size/\w.cell? ⟨b,off+i,none⟩=some (.int k (xs.getD i 0)):=by
 obtain ⟨ao,cap,rfl,_,hc⟩:=h;exact ⟨ao,cap,rfl,hc⟩
theorem Held.spots{k:IntKind}{w:World}{ao:Option Addr}{n cap:Nat}{xs:List Int}(h:Held k w (.slice ao n cap) xs) :
  ∀ i,i<xs.length->∃ b off,ao=some ⟨b,off,none⟩/\b<w.heap.size/\w.cell? ⟨b,off+i,none⟩=some (.int k (xs.getD i 0)):=by
 obtain ⟨ao',cap',he,_,hc⟩:=h
 cases he
 exact hc
theorem cL{k:IntKind}{w:World}{B e:Nat}{v:Value}{n:Nat}{xs:List Int}(h:w.ownsRow B e 1 v n (xs.map (Value.int k))):Held k w v xs:=by
 have hl:xs.length=n:=by have:=h.1;simpa using this
 subst hl
 rcases h.2 with ⟨rfl,hn⟩ | ⟨g,cap,cur,rfl,hb,hg,h1,h2,h3,h4⟩
 ·have:xs=[]:=List.eq_nil_of_length_eq_zero hn;subst this;exact Held.nil k w
 ·refine en (Array.getElem?_eq_some_iff.1 hg).1 fun i hi=>?_
  have:=h.cells (g:=g) rfl i (.int k (xs.getD i 0)) (by simp [List.getElem?_eq_getElem hi]);rw [Addr.add_lit] at this
  simpa using this
theorem cA{w w':World}{B e size:Nat}{v:Value}{n:Nat}{xs:List Value}(h:w.ownsRow B e size v n xs)(hb:Below w.heap.size w w'):w'.ownsRow B e size v n xs:=by
 refine ⟨h.1,?_⟩
 rcases h.2 with hn | ⟨g,cap,cur,rfl,hB,hg,rest⟩
 ·exact .inl hn
 ·exact .inr ⟨g,cap,cur,rfl,hB,(hb.block g (Array.getElem?_eq_some_iff.1 hg).1).trans hg,rest⟩
theorem il{B:Nat}{w w':World}(h:Below B w.drew w'):Below B w w':=⟨h.os,h.tape,h.output,h.size,h.block⟩
theorem cE{P:Program}(w:World){ops:Array Oper}{rest:List Oper}{o:Oper}{a:Act}{Q:Exit->Act->World->Prop}(hgd:o.guard=none)(s x:Operand)(t:TypeId)
  (ho:o.op=.call { callee:=.builtin .append,args:=#[s,x],argTypes:=#[t,t] })
  (base:Nat) (e:TypeId) (z:Value) (bytes:Nat) (ht:P.underlying t=some (.slice e)) (hinfo:(P.info? e).map (fun i=>(i.zero,i.size,i.bytes))=some (some z,1,bytes)) (hzs:z.cells.size=1)
  (k:IntKind) (v:Value) (n:Nat) (xs:List Int) (hs:a.eval s=v) (hown:w.ownsRow base e 1 v n (xs.map (Value.int k)))
  (u:Value) (ys:List Int) (hx:a.eval x=u) (hu:Held k w u ys)
  (hbytes:(n+ys.length) * bytes<=140737488355328) (hb0:n+ys.length<=140737488355328) (hbase:base<=w.heap.size)
  (h:∀ v' w',w'.ownsRow base e 1 v' (n+ys.length) ((xs++ys).map (Value.int k))->Below base w w'->wpList P ops Q rest (a.put o.dst v') w') :
  wpList P ops Q (o :: rest) a w:=by
 obtain ⟨i0,hi,hz0,hz1,hz2⟩:=info_parts hinfo;obtain ⟨ao,cap,rfl,hn,hc⟩:=hu
 cases ao with
 |none =>
  obtain ⟨rfl,rfl⟩:=hn rfl;exact wpList_append_own_none hgd s x t ho base e i0 1 ht hi v n _ hs hown hx (h v w (by simpa using hown) (Below.refl _ _))
 |some ad =>
  refine wpList_append_own _ hgd s x t ho base e i0 z 1 bytes ht hi hz0 hz1 hz2 hzs (by decide) v n _ hs hown ad ys.length cap (ys.map (Value.int k)) hx (by simp) ?_ (ints_oneCell k ys) (by unfold maxLen;omega) hbytes hbase ?_
  ·intro j y hj;have kY:j<ys.length:=by
    rcases Nat.lt_or_ge j ys.length with h | h
    ·exact h
    ·simp [List.getElem?_eq_none (show (ys.map (Value.int k)).length<=j by simpa using h)] at hj
   obtain ⟨b,off,e1,_,h1⟩:=hc j kY
   cases e1
   rw [Addr.add_lit,h1]
   simp [List.getElem?_eq_getElem kY] at hj
   subst hj
   simp [List.getD,List.getElem?_eq_getElem kY]
  ·intro v' w' hown' hgrow _;exact h v' w' (by simpa using hown') ((Below.refl base w).grown hgrow hbase fun j hj=>(hown.lt j hj).1)
def Gives(w:World)(v:Value)(e:Ending)(w':World):Prop:=e=.returned v/\Below w.heap.size w w'
theorem _root_.Go.RowKit.Below.drewN{B:Nat}{w w':World}(h:Below B w w')(n:Nat):Below B w (w'.drewN n):=⟨h.os,h.tape,h.output,h.size,h.block⟩
def Fresh(B:Nat)(v:Value):Prop:=∀ a n c,v=.slice (some a) n c->B<=a.block
theorem Fresh.nil(B:Nat)(n c:Nat):Fresh B (.slice none n c):=fun a _ _ h=>by cases h
theorem Fresh.mono{B B':Nat}{v:Value}(h:Fresh B v)(hb:B'<=B):Fresh B' v:=fun a n c e=>Nat.le_trans hb (h a n c e)
def aV(br ea:Int):Int:=if br=1\/br=2\/br=3\/br=4\/br=5\/br=10\/br=11 then 0 else if ea=1\/ea=2 then 2 else 1
theorem eI(br ea:Int):(br=1/\aV br ea=0)\/(br=2/\aV br ea=0)\/(br=3/\aV br ea=0)\/(br=4/\aV br ea=0)\/(br=5/\aV br ea=0)\/(br=10/\aV br ea=0)\/(br=11/\aV br ea=0)
  \/ ((br == 1)=false/\(br == 2)=false/\(br == 3)=false/\(br == 4)=false/\(br == 5)=false/\(br == 10)=false/\(br == 11)=false/\(ea=1/\aV br ea=2\/(ea == 1)=false/\ea=2/\aV br ea=2\/(ea == 1)=false/\(ea == 2)=false/\aV br ea=1)):=by
 unfold aV
 by_cases h1:br=1
 ·exact .inl ⟨h1,by simp [h1]⟩
 by_cases h2:br=2
 ·exact .inr (.inl ⟨h2,by simp [h2]⟩)
 by_cases h3:br=3
 ·exact .inr (.inr (.inl ⟨h3,by simp [h3]⟩))
 by_cases h4:br=4
 ·exact .inr (.inr (.inr (.inl ⟨h4,by simp [h4]⟩)))
 by_cases h5:br=5
 ·exact .inr (.inr (.inr (.inr (.inl ⟨h5,by simp [h5]⟩))))
 by_cases h10:br=10
 ·exact .inr (.inr (.inr (.inr (.inr (.inl ⟨h10,by simp [h10]⟩)))))
 by_cases h11:br=11
 ·exact .inr (.inr (.inr (.inr (.inr (.inr (.inl ⟨h11,by simp [h11]⟩))))))
 refine .inr (.inr (.inr (.inr (.inr (.inr (.inr ⟨by simpa using h1,by simpa using h2,by simpa using h3,by simpa using h4,by simpa using h5,by simpa using h10,by simpa using h11,?_⟩))))))
 by_cases e1:ea=1
 ·exact .inl ⟨e1,by simp [h1,h2,h3,h4,h5,h10,h11,e1]⟩
 by_cases e2:ea=2
 ·exact .inr (.inl ⟨by simpa using e1,e2,by simp [h1,h2,h3,h4,h5,h10,h11,e2]⟩)
 ·exact .inr (.inr ⟨by simpa using e1,by simpa using e2,by simp [h1,h2,h3,h4,h5,h10,h11,e1,e2]⟩)
theorem hG(br:Int)(b:Bool)(cv ea:Int)(w:World):Calls Try.prog 56 #[.agg #[.int .i64 br,.bool b,.int .i64 cv,.int .i64 ea]] w (Gives w (.int .i64 (aV br ea))):=by
 have hbl:∀ o,Below w.heap.size w (w.alloc o):=fun o=>iF _ o
 have kF:=aa hbl;clear hbl
 rcases eI br ea with ⟨rfl,hs⟩ | ⟨rfl,hs⟩ | ⟨rfl,hs⟩ | ⟨rfl,hs⟩ | ⟨rfl,hs⟩ | ⟨rfl,hs⟩ | ⟨rfl,hs⟩ | ⟨h1,h2,h3,h4,h5,h6,h7,⟨rfl,hs⟩ | ⟨h8,rfl,hs⟩ | ⟨h8,h9,hs⟩⟩
 all_goals
  rw [hs];clear hs
  go_enter Try.func56,Try.ntmps56
  go_wp2;go_ret;exact ⟨ae,kF.out _⟩
def dF(told pic:Bool)(r br:Int)(pc:Bool)(ea:Int):Bool:=aV br ea == 2 || ((r == 65039 && pic) || (told && (pc || br == 6)))
theorem fO(told pic:Bool)(r br:Int)(pc:Bool)(ea:Int):((aV br ea == 2)=true/\dF told pic r br pc ea=true)\/((aV br ea == 2)=false/\(r == 65039)=true/\pic=true/\dF told pic r br pc ea=true)
  \/ ((aV br ea == 2)=false/\((r == 65039)=true/\pic=false\/(r == 65039)=false)/\(told=false/\dF told pic r br pc ea=false\/told=true/\pc=true/\dF told pic r br pc ea=true\/told=true/\pc=false/\dF told pic r br pc ea=(br == 6))):=by
 unfold dF
 cases h1:(aV br ea == 2) <;> cases h2:(r == 65039) <;> cases pic <;> cases told <;> cases pc <;> simp
def cF(r:Int):Bool:=(decide (0<=r) && decide (r<=31)) || (decide (127<=r) && decide (r<=159))
theorem fP(r:Int):(decide (0<=r)=true/\decide (r<=31)=true/\cF r=true)\/(decide (0<=r)=true/\decide (r<=31)=false/\decide (127<=r)=true/\decide (r<=159)=true/\cF r=true)
  \/ (decide (0<=r)=true/\decide (r<=31)=false/\decide (127<=r)=true/\decide (r<=159)=false/\cF r=false)\/(decide (0<=r)=true/\decide (r<=31)=false/\decide (127<=r)=false/\cF r=false)
  \/ (decide (0<=r)=false/\decide (127<=r)=false/\cF r=false):=by
 unfold cF;simp only [decide_eq_true_eq,decide_eq_false_iff_not,Bool.or_eq_true,Bool.and_eq_true,Bool.or_eq_false_iff,Bool.and_eq_false_iff];omega
theorem eJ(r:Int)(w:World):Calls Try.prog 20 #[.int .i32 r] w (Gives w (.bool (cF r))):=by
 rcases fP r with ⟨h1,h2,hs⟩ | ⟨h1,h2,h3,h4,hs⟩ | ⟨h1,h2,h3,h4,hs⟩ | ⟨h1,h2,h3,hs⟩ | ⟨h1,h2,hs⟩
 all_goals
  have HS:=aa hs;clear hs
  go_enter Try.func20,Try.ntmps20
  go_wp2;go_ret;exact ⟨az (by rw [HS.out];first | rfl | simp),Below.refl _ _⟩
end Go.Proofs.Ythdphijabffpiaa
namespace Go.Proofs.Ythdphijabffpiaa
def ar(j:Nat->Bool)(n:Nat):List Nat:=(List.range n).filter fun k=>!j k
theorem dk(j:Nat->Bool)(k:Nat):ar j (k+1)=ar j k++(if j k=true then [] else [k]):=by
 unfold ar;rw [List.range_succ,List.filter_append]
 congr 1
 cases h:j k <;> simp [h]
theorem startB_mem{j:Nat->Bool}{n k:Nat}:k ∈ ar j n↔k<n/\j k=false:=by simp [ar]
theorem cG(j:Nat->Bool)(n:Nat):(ar j n).length<=n:=by
 have:=List.length_filter_le (fun k=>!j k) (List.range n)
 simpa [ar] using this
end Go.Proofs.Ythdphijabffpiaa
namespace Go.Proofs.Ythdphijabffpiaa
open Go.RowKit Go.ChangeShapes Go.WideShapes
def aQ(n:Int):Int:=if n<1 then 1 else if 1024<n then 1024 else n
theorem eZ(n:Int):(n<1/\aQ n=1)\/(1<=n/\n<=1024/\aQ n=n)\/(1024<n/\aQ n=1024):=by unfold aQ;omega
theorem cY(n:Int):1<=aQ n/\aQ n<=1024:=by unfold aQ;omega
def bk(n:Int):Int:=if n<0 then 0 else if 1073741824<n then 1073741824 else n
theorem e5(n:Int):(n<0/\bk n=0)\/(0<=n/\n<=1073741824/\bk n=n)\/(1073741824<n/\bk n=1073741824):=by unfold bk;omega
theorem e6(n:Int):0<=bk n/\bk n<=1073741824:=by unfold bk;omega
theorem bU(n:Int)(w:World):Calls Try.prog 15 #[.int .i64 n] w fun e w'=>e=.returned (.int .i64 (aQ n))/\w=w':=by
 rcases eZ n with ⟨h2,hs⟩ | ⟨h2,h3,hs⟩ | ⟨h2,hs⟩
 all_goals
  rw [hs];clear hs
  go_enter Try.func15,Try.ntmps15
  go_wp2;go_ret;exact ⟨ae,rfl⟩
theorem cx(n:Int)(w:World):Calls Try.prog 12 #[.int .i64 n] w fun e w'=>e=.returned (.int .i64 (bk n))/\w=w':=by
 rcases e5 n with ⟨h2,hs⟩ | ⟨h2,h3,hs⟩ | ⟨h2,hs⟩
 all_goals
  rw [hs];clear hs
  go_enter Try.func12,Try.ntmps12
  go_wp2;go_ret;exact ⟨ae,rfl⟩
theorem iq(a b m n:Int)(h0:0<=a)(h1:a<=m)(k0:0<=b)(k1:b<=n):0<=a * b/\a * b<=m * n:=by
 refine ⟨Int.mul_nonneg h0 k0,?_⟩;exact Int.mul_le_mul h1 k1 k0 (by omega)
theorem gP(a b:Int)(w:World):Calls Try.prog 9 #[.int .i64 a,.int .i64 b] w fun e w'=>e=.returned (.int .i64 (aQ a * aQ b * 16))/\w=w':=by
 have ka:=cY a;have kb:=cY b;have km:=iq (aQ a) (aQ b) 1024 1024 (by omega) (by omega) (by omega) (by omega)
 go_enter Try.func9,Try.ntmps9
 go_wp2_with fail
 refine (bU a _).mono ?_;rintro e w' ⟨rfl,rfl⟩
 go_wp2_with fail
 refine (bU b _).mono ?_;rintro e w' ⟨rfl,rfl⟩;go_wp2;go_ret;exact ⟨ae,rfl⟩
def dm(n w:Int):Int:=if bk n=0 then 1 else if aQ w=1 then bk n else (2 * bk n+aQ w - 2) / (aQ w - 1)
theorem cH(n a:Int)(w:World):Calls Try.prog 8 #[.int .i64 n,.int .i64 a] w fun e w'=>e=.returned (.int .i64 (dm n a))/\w=w':=by
 have ka:=cY a;have kn:=e6 n;have hr:dm n a=if bk n=0 then 1 else if aQ a=1 then bk n else (2 * bk n+aQ a - 2) / (aQ a - 1):=rfl;obtain ⟨x,hx⟩:=ab (bk n);obtain ⟨y,hy⟩:=ab (aQ a);rw [<-hx,<-hy] at hr;rw [<-hy] at ka;rw [<-hx] at kn;have HX:=aa hx;have HY:=aa hy;clear hx hy
 by_cases h0:x=0
 ·subst h0;rw [hr];simp only [if_pos];clear hr
  go_enter Try.func8,Try.ntmps8
  go_wp2_with fail
  refine (cx n _).mono ?_;rintro e w' ⟨rfl,rfl⟩;rw [<-HX.out]
  go_wp2_with fail
  refine (bU a _).mono ?_;rintro e w' ⟨rfl,rfl⟩;rw [<-HY.out];go_wp2;go_ret;exact ⟨ae,rfl⟩
 ·rw [if_neg h0] at hr
  by_cases h1:y=1
  ·subst h1;rw [if_pos rfl] at hr;rw [hr];clear hr
   go_enter Try.func8,Try.ntmps8
   go_wp2_with fail
   refine (cx n _).mono ?_;rintro e w' ⟨rfl,rfl⟩;rw [<-HX.out]
   go_wp2_with fail
   refine (bU a _).mono ?_;rintro e w' ⟨rfl,rfl⟩;rw [<-HY.out];go_wp2;go_ret;exact ⟨ae,rfl⟩
  ·rw [if_neg h1] at hr;rw [hr];clear hr;have hne:((y - 1) == 0)=false:=by simp;omega
   go_enter Try.func8,Try.ntmps8
   go_wp2_with fail
   refine (cx n _).mono ?_;rintro e w' ⟨rfl,rfl⟩;rw [<-HX.out]
   go_wp2_with fail
   refine (bU a _).mono ?_;rintro e w' ⟨rfl,rfl⟩;rw [<-HY.out];go_wp2;go_ret;exact ⟨ae,rfl⟩
theorem e7(n:Int)(w:World):Calls Try.prog 6 #[.int .i64 n] w fun e w'=>e=.returned (.int .i64 (2 * bk n))/\w=w':=by
 have kn:=e6 n
 go_enter Try.func6,Try.ntmps6
 go_wp2_with fail
 refine (cx n _).mono ?_;rintro e w' ⟨rfl,rfl⟩;go_wp2;go_ret;exact ⟨ae,rfl⟩
theorem co(w:World):Calls Try.prog 4 #[] w fun e w'=>e=.returned (.bool true)/\w=w':=by
 go_enter Try.func4,Try.ntmps4
 go_wp2_with fail
 refine (gP 80 24 _).mono ?_;rintro e w' ⟨rfl,rfl⟩;rw [show aQ 80 * aQ 24 * 16=30720 from by decide]
 go_wp2_with fail
 refine (cH 3 3 _).mono ?_;rintro e w' ⟨rfl,rfl⟩;rw [show dm 3 3=3 from by decide]
 go_wp2_with fail
 refine (cH 0 9 _).mono ?_;rintro e w' ⟨rfl,rfl⟩;rw [show dm 0 9=1 from by decide];go_wp2;go_ret;exact ⟨ae,rfl⟩
theorem fI{k:IntKind}{w:World}{v:Value}{xs:List Int}(h:Held k w v xs)(o:Obj):Held k (w.alloc o) v xs:=h.below (iF _ _)
theorem gn(w:World)(t:TypeId)(k:IntKind)(B:Nat)(hB:B<=w.heap.size):(w.alloc (.cells #[] t)).ownsRow B t 1 (.slice (some ⟨w.heap.size,0,none⟩) 0 0) 0 (([]:List Int).map (Value.int k)) :=
 ⟨rfl,.inr ⟨w.heap.size,0,#[],rfl,hB,heap_alloc_new w _,Nat.le_refl _,by unfold maxLen;omega,rfl,rfl⟩⟩
theorem Try.info_r:(Try.prog.info? 21).map (fun i=>(i.zero,i.size,i.bytes))=some (some (.int .i32 0),1,4):=by kernel_rfl
def em(t:TypeId)(k:IntKind)(w:World)(xs:List Int)(e:Ending)(w':World):Prop:=∃ v',e=.returned v'/\w'.ownsRow w.heap.size t 1 v' xs.length (xs.map (Value.int k))/\Below w.heap.size w w'
theorem cD(v:Value)(xs:List Int)(w:World)(hv:Held .i32 w v xs)(hl:xs.length<=1000000000):Calls Try.prog 16 #[v] w (em 21 .i32 w xs):=by
 obtain ⟨ao,cap,rfl,hn,_⟩:=id hv
 cases ao with
 |none =>
  obtain ⟨rfl,rfl⟩:=hn rfl;clear hv hn;have q:=fun w=>run_eql_slice_nil (P:=Try.prog) w 22 21 none 0 0 Try.underlying22
  go_enter Try.func16,Try.ntmps16
  go_wp2;go_ret;exact ⟨_,rfl,World.ownsRow_nil _ _ _ _,Below.refl _ _⟩
 |some a =>
  have hv':=fI hv (.cells #[] 21);clear hv hn;have q:=fun w=>run_eql_slice_nil (P:=Try.prog) w 22 21 (some a) xs.length cap Try.underlying22
  go_enter Try.func16,Try.ntmps16
  go_wp2_with (at_builtin;refine cE (w.alloc (.cells #[] 21)) rfl (.tmp 5) (.tmp 6) 22 rfl w.heap.size 21 (.int .i32 0) 4 Try.underlying22 Try.info_r rfl .i32 _ 0 [] rfl (gn w 21 .i32 _ (Nat.le_refl _)) _ xs rfl hv' (by omega) (by omega) (by simp) ?_)
  intro v5 w5 ho5 ks;have kA:w5.ownsRow w.heap.size 21 1 v5 xs.length (xs.map (Value.int .i32)):=by simpa using ho5
  clear ho5;go_wp2;go_ret;exact ⟨_,rfl,kA,(iF _ _).trans ks⟩
section
open Go.ChangeShapes Go.WideShapes Go.ChangeAt Go.RowKit
def Yes(w:World)(e:Ending)(w':World):Prop:=e=.returned (.bool true)/\Below w.heap.size w w'
section
variable {H : Type} {enc : TypeId × Value → H} {P : Program}
theorem dT{W W':World}(hl:laidOutB P=true)(hb:Below W.heap.size W W'):∀ (ts:List TypeId) (vs:List Value) (ds:List (DataW H)) (ps:List MemPlace),
  (∀ t ∈ ts,P.readableRec t=true/\t<P.types.size)->(∀ x ∈ ps,x.block<W.heap.size)->DataW.TrodAll enc P W 0 (fun _=>true) true ts vs ds ps->DataW.TrodAll enc P W' 0 (fun b=>decide (b<W.heap.size)) true ts vs ds ps:=by
 intro ts
 induction ts with
 |nil =>
  intro vs ds ps _ _ h;obtain ⟨rfl,rfl,rfl⟩:=trodAll_nil h;exact trodAll_mk0
 |cons t ts ih =>
  intro vs ds ps hr hlt h;obtain ⟨v,vs',d,ds',p,q,rfl,rfl,rfl,h0,h1⟩:=trodAll_cons h;exact trodAll_cons_mk (Below.trod hl (hr t (by simp)).1 (hr t (by simp)).2 h0 hb (fun x hx=>hlt x (by simp [hx])))
   (ih vs' ds' q (fun u hu=>hr u (by simp [hu])) (fun x hx=>hlt x (by simp [hx])) h1)
theorem dE{w:World}{b:Nat}{sp:Nat->Bool}{hd:Bool}:∀ (ts:List TypeId) (vs:List Value) (ds:List (DataW H)) (ps:List MemPlace),DataW.TrodAll enc P w b sp hd ts vs ds ps->ds.length=ts.length:=by
 intro ts
 induction ts with
 |nil =>
  intro vs ds ps h;obtain ⟨rfl,rfl,rfl⟩:=trodAll_nil h
  rfl
 |cons t ts ih =>
  intro vs ds ps h;obtain ⟨v,vs',d,ds',p,q,rfl,rfl,rfl,_,h1⟩:=trodAll_cons h
  simp [ih vs' ds' q h1]
end
theorem dn{H:Type}{enc:TypeId × Value->H}{C:Checked}{os:Os}{f:FuncId}{fn:Func}{s:ChangeSpec}{tb:TypeId}
  (own:ownKnob C.prog.godebug=none) (started:os.Started) (noInit:C.prog.inits.idxOf? f=none) (hfn:C.prog.funcs[f]? = some fn)
  (hl:laidOutB C.prog=true) (hres:fn.resultTypes=#[tb]) (hbool:C.prog.underlying tb=some .bool) (hvars:s.vars=[])
  (hread:∀ t ∈ fn.params.toList,C.prog.readableRec t=true/\t<C.prog.types.size)
  (hspec:∀ ds:List (DataW H),ds.length=fn.params.size->s.fn H ds={ results:=[.lit (.bool true)],args:=ds })
  (witness:∃ (w:World) (tape:Tape) (i:Input),w.os=os/\(w.forCall tape i).Shaped C.prog/\i.vars=[]/\Input.okWide C.prog (w.forCall tape i) .any w.heap.size f i /\
   s.pre6 enc C.prog fn [] false (w.forCall tape i).memory i.args/\({}:Assume).holds C.prog (lone (Frame.enter C.prog f i.args .normal) [] (w.forCall tape i)))
  (walk:∀ (W:World) (base:Nat) (args:Array Value) (ds:List (DataW H)) (before:List MemPlace),
   (∀ (j:Nat) t v,fn.params[j]? = some t->args[j]? = some v->Value.okWide C.prog W .any base t v) ->
   DataW.TrodAll enc C.prog W 0 (fun _=>true) true fn.params.toList args.toList ds before->Calls C.prog f args W (Yes W)) :
  ReturnsInHanded {} C os f .any (s.pre6 enc C.prog fn [] false) (s.post enc C.prog fn false true false false):=by
 refine returnsInHanded_of_change (C:=C) own started noInit hfn witness ?_;intro W base args ds gs before hval hW _ _;have hW':=hW;obtain ⟨p,q,hA,hV,rfl,hfz,i8⟩:=hW;rw [hvars] at hV;obtain ⟨rfl,rfl⟩:=trodVars_none hV;refine (walk W base args ds p hval hA).mono fun e W' he=>?_
 obtain ⟨rfl,hb⟩:=he;have hlt:∀ x ∈ p,x.block<W.heap.size:=fun x hx=>hW'.lt x (by simpa using hx)
 have e1:s.fn H (ds++[])={ results:=[.lit (.bool true)],args:=ds }:=by
  rw [List.append_nil];exact hspec ds (by simpa using dE _ _ _ _ hA)
 refine ⟨_,rfl,ds,[],p++[],[],p,[],hW',?_,?_,?_,hb.frame _,fun h=>by cases h⟩
 ·rw [e1,hres];exact trodAll_mk1 (shut_bool hbool true)
 ·rw [e1];exact dT hl hb _ _ _ _ hread hlt hA
 ·rw [e1,hvars]
  rfl
end
def aI(j:Nat->Bool):Nat->Nat
 | 0=>0
 | k+1=>if j k=true\/k=0 then aI j k else k
def aC(j:Nat->Bool):Nat->List (Nat × Nat)
 | 0=>[]
 | k+1=>if j k=true\/k=0 then aC j k else aC j k++[(aI j k,k)]
def aA(j:Nat->Bool)(n:Nat):List (Nat × Nat):=if n=0 then [] else aC j n++[(aI j n,n)]
theorem bK(j:Nat->Bool)(k:Nat):aI j (k+1)=if j k=true\/k=0 then aI j k else k:=rfl
theorem bv(j:Nat->Bool)(k:Nat):aC j (k+1)=if j k=true\/k=0 then aC j k else aC j k++[(aI j k,k)]:=rfl
theorem bS(j:Nat->Bool):∀ k,0<k->aI j k<k
 |0,h=>absurd h (Nat.lt_irrefl _)
 |k+1,_=>by
  rw [bK]
  split
  ·rcases Nat.eq_zero_or_pos k with e | e
   ·subst e;exact Nat.zero_lt_one
   ·have:=bS j k e;omega
  ·omega
theorem eQ(j:Nat->Bool)(k:Nat):aI j k<=k:=by
 rcases Nat.eq_zero_or_pos k with e | e
 ·subst e;exact Nat.le_refl _
 ·exact Nat.le_of_lt (bS j k e)
theorem bE(j:Nat->Bool)(h0:j 0=false):∀ k,0<k->(aC j k).map Prod.fst++[aI j k]=ar j k/\(aC j k).map Prod.snd=(ar j k).tail
 |0,h=>absurd h (Nat.lt_irrefl _)
 |1,_=>by
  have e:ar j 1=[0]:=by rw [dk,h0];rfl
  rw [e];exact ⟨by simp [aC,aI],by simp [aC]⟩
 |k+2,_=>by
  obtain ⟨h1,h2⟩:=bE j h0 (k+1) (Nat.succ_pos _);rw [dk j (k+1)];rw [bK,bv]
  cases hj:j (k+1) with
  |true =>
   rw [if_pos (.inl rfl),if_pos (.inl rfl),if_pos rfl,List.append_nil];exact ⟨h1,h2⟩
  |false =>
   rw [if_neg (by simp),if_neg (by simp),if_neg (by decide)];refine ⟨by rw [List.map_append,List.map_cons,List.map_nil,h1],?_⟩;rw [List.map_append,h2,List.map_cons,List.map_nil];have hne:ar j (k+1)≠[]:=by rw [<-h1];simp
   cases hs:ar j (k+1) with
   | nil=>exact absurd hs hne
   | cons a l=>rfl
theorem dI(j:Nat->Bool)(h0:j 0=false)(n:Nat):(aA j n).map Prod.fst=ar j n:=by
 unfold aA
 by_cases h:n=0
 ·subst h;rw [if_pos rfl];rfl
 ·rw [if_neg h,List.map_append];exact (bE j h0 n (Nat.pos_of_ne_zero h)).1
theorem fm(j:Nat->Bool)(h0:j 0=false)(n:Nat)(h:0<n):(aA j n).map Prod.snd=(ar j n++[n]).tail:=by
 unfold aA;rw [if_neg (by omega),List.map_append,(bE j h0 n h).2];have hne:ar j n≠[]:=by rw [<-(bE j h0 n h).1];simp
 cases hs:ar j n with
 | nil=>exact absurd hs hne
 | cons a l=>rfl
theorem bh(j:Nat->Bool)(h0:j 0=false)(n:Nat):(aA j n).length=(ar j n).length:=by rw [<-dI j h0 n,List.length_map]
theorem d9(j:Nat->Bool)(h0:j 0=false)(n i:Nat)(hi:i<(ar j n).length):(aA j n).getD i (0,0)=((ar j n++[n]).getD i 0,(ar j n++[n]).getD (i+1) 0):=by
 have hn:0<n:=by
  rcases Nat.eq_zero_or_pos n with e | e
  ·subst e;simp [ar] at hi
  ·exact e
 have hl:=bh j h0 n;have e1:=congrArg (fun l:List Nat=>l.getD i 0) (dI j h0 n);have e2:=congrArg (fun l:List Nat=>l.getD i 0) (fm j h0 n hn);have hs:i<(aA j n).length:=by omega
 have e3:(ar j n++[n]).tail.getD i 0=(ar j n++[n]).getD (i+1) 0:=by
  cases ar j n with
  | nil=>rfl
  | cons a l=>rfl
 have e4:(ar j n++[n]).getD i 0=(ar j n).getD i 0:=by simp [List.getD,List.getElem?_append_left hi]
 rw [e4];simp only [e3] at e2
 simp [List.getD,List.getElem?_eq_getElem hs] at e1 e2 ⊢
 exact Prod.ext (by simpa [List.getD] using e1) (by simpa [List.getD] using e2)
theorem dJ(j:Nat->Bool):∀ k p,p ∈ aC j k->p.1<p.2/\p.2<k
 |0,p,h=>by simp [aC] at h
 |k+1,p,h=>by
  rw [bv] at h
  split at h
  ·have:=dJ j k p h;omega
  ·rename_i hk
   rcases List.mem_append.1 h with h | h
   ·have:=dJ j k p h;omega
   ·simp at h
    subst h;have:k≠0:=fun e=>hk (.inr e)
    have:=bS j k (by omega);exact ⟨this,by simp⟩
theorem eb(j:Nat->Bool)(n:Nat)(p:Nat × Nat)(h:p ∈ aA j n):p.1<p.2/\p.2<=n:=by
 unfold aA at h
 split at h
 ·simp at h
 ·rcases List.mem_append.1 h with h | h
  ·have:=dJ j n p h;omega
  ·simp at h
   subst h;exact ⟨bS j n (by omega),Nat.le_refl _⟩
theorem fo(j:Nat->Bool)(k:Nat):aC j k <+: aC j (k+1):=by
 rw [bv]
 split
 ·exact List.prefix_refl _
 ·exact List.prefix_append _ _
theorem eR(j:Nat->Bool)(k:Nat):∀ d,aC j k <+: aC j (k+d)
 | 0=>List.prefix_refl _
 | d+1=>(eR j k d).trans (fo j (k+d))
theorem gE(j:Nat->Bool)(k n:Nat)(hk:k<=n)(hn:0<n):aC j k <+: aA j n:=by
 obtain ⟨d,rfl⟩ : ∃ d,n=k+d:=⟨n - k,by omega⟩;unfold aA;rw [if_neg (by omega)];exact (eR j k d).trans (List.prefix_append _ _)
def aB{α:Type}(T:List α)(p:Nat × Nat):List α:=(T.drop p.1).take (p.2 - p.1)
theorem bw{α:Type}(T:List α)(p:Nat × Nat)(h1:p.1<=p.2)(h2:p.2<=T.length):(aB T p).length=p.2 - p.1:=by unfold aB;rw [List.length_take,List.length_drop];omega
theorem eS{α:Type}(T:List α)(a b:Nat)(h:a<=b):T.take a++aB T (a,b)=T.take b:=by
 unfold aB;have:=List.take_add (l:=T) (i:=a) (j:=b - a);rw [show a+(b - a)=b by omega] at this;exact this.symm
theorem dj(j j':Nat->Bool):∀ k,(∀ i,i<k->j i=j' i)->aC j k=aC j' k/\aI j k=aI j' k
 |0,_=>⟨rfl,rfl⟩
 |k+1,h=>by
  obtain ⟨h1,h2⟩:=dj j j' k fun i hi=>h i (by omega)
  rw [bK,bv,bK,bv,h1,h2,h k (by omega)];exact ⟨rfl,rfl⟩
theorem b9(j j':Nat->Bool)(n:Nat)(h:∀ i,i<n->j i=j' i):aA j n=aA j' n:=by
 obtain ⟨h1,h2⟩:=dj j j' n h;unfold aA;rw [h1,h2]
theorem ec(j:Nat->Bool)(a:Nat)(ha:0<a)(hj:j a=false):∀ b,aC j (a+b+1)=aA j a++(aC (fun i=>j (a+i)) (b+1)).map (fun p=>(a+p.1,a+p.2))/\aI j (a+b+1)=a+aI (fun i=>j (a+i)) (b+1)
 |0=>by
  have e1:aC j (a+0+1)=aC j a++[(aI j a,a)]:=by
   show (if j (a+0)=true\/a+0=0 then aC j (a+0) else aC j (a+0)++[(aI j (a+0),a+0)])=_;rw [Nat.add_zero,hj,if_neg (by simp;omega)]
  have e2:aI j (a+0+1)=a:=by
   show (if j (a+0)=true\/a+0=0 then aI j (a+0) else a+0)=_;rw [Nat.add_zero,hj,if_neg (by simp;omega)]
  rw [e1,e2];unfold aA;rw [if_neg (by omega)];exact ⟨by simp [aC],by simp [aI]⟩
 |b+1=>by
  obtain ⟨h1,h2⟩:=ec j a ha hj b;have e1:aC j (a+(b+1)+1)=if j (a+b+1)=true\/a+b+1=0 then aC j (a+b+1) else aC j (a+b+1)++[(aI j (a+b+1),a+b+1)]:=rfl;have e2:aI j (a+(b+1)+1)=if j (a+b+1)=true\/a+b+1=0 then aI j (a+b+1) else a+b+1:=rfl;have e3:aC (fun i=>j (a+i)) (b+1+1)=if j (a+b+1)=true\/b+1=0 then aC (fun i=>j (a+i)) (b+1) else aC (fun i=>j (a+i)) (b+1)++[(aI (fun i=>j (a+i)) (b+1),b+1)]:=rfl;have e4:aI (fun i=>j (a+i)) (b+1+1)=if j (a+b+1)=true\/b+1=0 then aI (fun i=>j (a+i)) (b+1) else b+1:=rfl;rw [e1,e2,e3,e4]
  cases j (a+b+1) with
  |true=>rw [if_pos (.inl rfl),if_pos (.inl rfl),if_pos (.inl rfl),if_pos (.inl rfl)];exact ⟨h1,h2⟩
  |false =>
   rw [if_neg (by simp),if_neg (by simp),if_neg (by simp),if_neg (by simp),h1,h2];exact ⟨by simp [Nat.add_assoc],by omega⟩
theorem dK(j:Nat->Bool)(a b:Nat)(hj:j a=false):aA j (a+(b+1))=aA j a++(aA (fun i=>j (a+i)) (b+1)).map (fun p=>(a+p.1,a+p.2)):=by
 rcases Nat.eq_zero_or_pos a with e | e
 ·subst e;have:aA j 0=[]:=rfl;rw [this,List.nil_append];simp only [Nat.zero_add];rw [show ((fun p:Nat × Nat=>(p.1,p.2)))=id from rfl,List.map_id]
 ·obtain ⟨h1,h2⟩:=ec j a e hj b;show (if a+(b+1)=0 then [] else aC j (a+b+1)++[(aI j (a+b+1),a+(b+1))])=_;rw [if_neg (by omega),h1,h2,List.append_assoc]
  congr 1
  show _=List.map _ (if b+1=0 then [] else _);rw [if_neg (by omega),List.map_append]
  rfl
section
open Go Go.RowKit
def bP(l:List Oper)(n:Nat):Bool :=
 (List.range n).all fun i=>match l[i]? with
  |some o=>(o.after.all fun e=>!Region.binds .any e || decide (e.on<i)) && (match o.guard with
   | none=>true
   | some (j,_)=>decide (j<n))
  |none=>false
theorem dC{l:List Oper}{n i:Nat}{o:Oper}(h:bP l n=true)(hi:i<n)(ho:l[i]? = some o) :
  (∀ e ∈ o.after,Region.binds .any e=true->e.on<i)/\∀ j b,o.guard=some (j,b)->j<n:=by
 have h1:=List.all_eq_true.1 h i (List.mem_range.2 hi);rw [ho] at h1;simp only [Bool.and_eq_true] at h1;refine ⟨fun e he hb=>?_,fun j b hg=>?_⟩
 ·have:=Array.all_eq_true'.1 h1.1 e he
  simpa [hb] using this
 ·have:=h1.2;rw [hg] at this
  simpa using this
theorem es{l:List Oper}{n i:Nat}(hi:i<n):(l.take n)[i]? = l[i]?:=by
 rw [List.getElem?_take,if_pos hi]
theorem eD{l:List Oper}{n i:Nat}{o:Oper}(h:bP l n=true)(hi:i<n)(ho:l[i]? = some o)(tmps:Array Value) :
  Region.wanted o (yielded (l.take n).toArray tmps)=Region.wanted o (yielded l.toArray tmps):=by
 unfold Region.wanted
 cases hg:o.guard with
 |none=>rfl
 |some jb =>
  obtain ⟨j,b⟩:=jb;have hj:=(dC h hi ho).2 j b hg;have e:yielded (l.take n).toArray tmps j=yielded l.toArray tmps j:=by
   unfold yielded;simp only [List.getElem?_toArray];rw [es hj]
  simp only [e]
def aN(n:Nat)(listed:Array Bool):Nat:=((List.range n).filter fun i=>!listed.getD i true).length
theorem bf{n:Nat}{listed:Array Bool}(h:aN n listed=0):∀ i,i<n->listed.getD i true=true:=by
 intro i hi
 cases hl:listed.getD i true with
 |true=>rfl
 |false =>
  have:i ∈ (List.range n).filter fun i=>!listed.getD i true:=List.mem_filter.2 ⟨List.mem_range.2 hi,by simp [hl]⟩
  rw [List.length_eq_zero_iff.1 h] at this
  cases this
theorem et{n:Nat}{listed:Array Bool}(h:0<aN n listed):∃ i,i<n/\listed.getD i true=false/\∀ j,j<i->listed.getD j true=true:=by
 obtain ⟨i,hi⟩:=List.exists_mem_of_length_pos h;obtain ⟨h1,h2⟩:=List.mem_filter.1 hi;have h3:i<n/\listed.getD i true=false:=⟨List.mem_range.1 h1,by simpa using h2⟩;clear hi h1 h2 h
 induction i using Nat.strongRecOn with
 |_ i ih =>
  by_cases hex:∃ j,j<i/\listed.getD j true=false
  ·obtain ⟨j,hj,hf⟩:=hex;exact ih j hj ⟨by omega,hf⟩
  ·refine ⟨i,h3.1,h3.2,fun j hj=>?_⟩
   cases hl:listed.getD j true with
   | true=>rfl
   | false=>exact absurd ⟨j,hj,hl⟩ hex
theorem ce{α:Type}(p q:α->Bool)(x:α):∀ (l:List α),l.Nodup->x ∈ l->p x=true->q x=false->(∀ y,y≠x->q y=p y)->(l.filter q).length+1=(l.filter p).length
 |[],_,hx,_,_,_=>by cases hx
 |y :: l,i8,hx,hp,hq,hs=>by
  obtain ⟨hy,hnd'⟩:=List.nodup_cons.1 i8
  by_cases he:y=x
  ·subst he;have:l.filter q=l.filter p:=List.filter_congr fun z hz=>hs z (fun e=>hy (e ▸ hz))
   rw [List.filter_cons_of_neg (by simp [hq]),List.filter_cons_of_pos hp,this]
   simp
  ·have hx':x ∈ l:=by
    rcases List.mem_cons.1 hx with h | h
    ·exact absurd h.symm he
    ·exact h
   have:=ce p q x l hnd' hx' hp hq hs;rw [List.filter_cons,List.filter_cons,hs y he]
   split
   ·rw [List.length_cons,List.length_cons];omega
   ·exact this
theorem bo{n i:Nat}{listed:Array Bool}(hsz:listed.size=n)(hi:i<n)(hu:listed.getD i true=false):aN n (listed.setIfInBounds i true)+1=aN n listed:=by
 unfold aN;refine ce _ _ i _ List.nodup_range (List.mem_range.2 hi) (by simp [hu]) ?_ ?_
 ·have:(listed.setIfInBounds i true).getD i true=true:=by
   rw [Array.getD_eq_getD_getElem?,Array.getElem?_setIfInBounds_self_of_lt (by omega)]
   rfl
  rw [this];rfl
 ·intro y hy;rw [getD_set_ne true (by omega)]
theorem bI{listed:Array Bool}{i:Nat}(h:i<listed.size):listed.getD i false=listed.getD i true:=by
 rw [Array.getD_eq_getD_getElem?,Array.getD_eq_getD_getElem?,Array.getElem?_eq_getElem h]
 rfl
section
variable {P : Program} {l : List Oper} {n : Nat} {C : World → Prop}
theorem fi(iG:bP l n=true){listed₀ listed:Array Bool}(iK:∀ i,i<n->listed.getD i true=listed₀.getD i true)(hs0:listed₀.size=n)(hs:listed.size=l.length)(hn:n<l.length){i:Nat}(hi:i<n)
  (hr:i ∈ Region.ready .any l.toArray listed):i ∈ Region.ready .any (l.take n).toArray listed₀:=by
 obtain ⟨h1,o,ho,hall⟩:=mem_ready.1 hr;have iH:l[i]? = some o:=by simpa using ho
 refine mem_ready.2 ⟨(iK i hi).symm.trans h1,o,by simpa [es hi] using iH,fun e he hb=>?_⟩;have hlt:=(dC iG hi iH).1 e he hb;have h2:=hall e he hb;have h3:=iK e.on (by omega);rw [bI (by omega)] at h2 ⊢;rw [<-h3];exact h2
theorem fj(iG:bP l n=true){listed:Array Bool}(hs:listed.size=l.length)(hn:n<l.length){i:Nat}(hi:i<n)(hu:listed.getD i true=false)(hb:∀ j,j<i->listed.getD j true=true) :
  i ∈ Region.ready .any l.toArray listed:=by
 have hl:l[i]? = some l[i]:=List.getElem?_eq_getElem (by omega);refine mem_ready.2 ⟨hu,l[i],by simp,fun e he hbi=>?_⟩;have hlt:=(dC iG hi hl).1 e he hbi;have:=hb e.on hlt;rw [Array.getD_eq_getD_getElem?,Array.getElem?_eq_getElem (by omega)] at this ⊢;exact this
theorem gC(iG:bP l n=true){i:Nat}(hi:i<n){K:Act->Prop}{a:Act}(h:qOp P (l.take n).toArray C i K a):qOp P l.toArray C i K a:=by
 unfold qOp at *;simp only [List.getElem?_toArray] at *;rw [es hi] at h
 cases ho:l[i]? with
 |none=>rw [ho] at h;exact h
 |some o =>
  rw [ho] at h;simp only at h ⊢;rw [eD iG hi ho] at h;exact h
def aq(l:List Oper)(n:Nat):Array Bool:=((List.range l.length).map fun i=>decide (i<n)).toArray
theorem eE{listed:Array Bool}(hs:listed.size=l.length)(hd:∀ i,i<n->listed.getD i true=true)(inv:HeadInv .any l.toArray n listed):listed=aq l n:=by
 apply Array.ext
 ·simp [aq,hs]
 ·intro i h1 h2;have h3:(aq l n)[i]=decide (i<n):=by simp [aq]
  rw [h3]
  by_cases hi:i<n
  ·have:=hd i hi;rw [Array.getD_eq_getD_getElem?,Array.getElem?_eq_getElem h1] at this;rw [decide_eq_true hi];exact this
  ·have:=inv.tail i (by omega) (by simp;omega);rw [Array.getD_eq_getD_getElem?,Array.getElem?_eq_getElem h1] at this;rw [decide_eq_false hi];exact this
theorem eF{g:Nat}{Q':Exit->Act->World->Prop}{T:Act->Prop}(hn:n<l.length)(iG:bP l n=true)(hs:Region.sinkB .any l.toArray n=true)(hc:Region.chainB .any l.toArray n=true)
  (hT:∀ a w,C w->T a->wpAny P .any l.toArray Q' g (aq l n) a w) :
  ∀ (f:Nat) (listed₀ listed:Array Bool) (a:Act) (w:World),C w->HeadInv .any l.toArray n listed->listed₀.size=n->(∀ i,i<n->listed.getD i true=listed₀.getD i true)->aN n listed₀=f ->
   wpAnyQ P .any (l.take n).toArray C T f listed₀ a->wpAny P .any l.toArray Q' (f+g) listed a w:=by
 intro f
 induction f with
 |zero =>
  intro listed₀ listed a w hw inv hs0 iK hu h;have hsz:listed.size=l.length:=by simpa using inv.size
  rw [Nat.zero_add,eE hsz (fun i hi=>(iK i hi).trans (bf hu i hi)) inv];exact hT a w hw h.2
 |succ f ih =>
  intro listed₀ listed a w hw inv hs0 iK hu h;have hsz:listed.size=l.length:=by simpa using inv.size
  obtain ⟨m,hm,hmu,hmb⟩:=et (n:=n) (listed:=listed₀) (by omega);have hmr:=fj iG hsz hn hm ((iK m hm).trans hmu) (fun j hj=>(iK j (by omega)).trans (hmb j hj));rw [show f+1+g=(f+g)+1 by omega];refine ⟨(fun h0=>by rw [h0] at hmr;cases hmr),fun i hi=>?_⟩;have jM:i<n:=by
   rcases Nat.lt_or_ge i n with h' | h'
   ·exact h'
   ·exact absurd hi (tail_waits hs hc (by simpa using hn) inv _ m rfl hm ((iK m hm).trans hmu) i h')
  have jU:=fi iG iK hs0 hsz hn jM hi;have hq:=gC iG jM (h.2 i jU);refine wpOp_of_qOp hw (fun a' w' hw' hK=>ih _ _ a' w' hw' (inv.set hi jM) (by simpa using hs0) (fun j hj=>?_) ?_ hK) hq
  ·by_cases i2:i=j
   ·subst i2;rw [Array.getD_eq_getD_getElem?,Array.getD_eq_getD_getElem?,Array.getElem?_setIfInBounds_self_of_lt (by omega),Array.getElem?_setIfInBounds_self_of_lt (by omega)]
   ·rw [getD_set_ne true i2,getD_set_ne true i2];exact iK j hj
  ·have:=bo hs0 jM ((iK i jM).symm.trans (mem_ready.1 hi).1);omega
theorem dD{id:Nat}{Q:Exit->Act->World->Prop}{a:Act}{w:World}(n:Nat)(hm:P.follows .mixedOrders=true)(hn:n<l.length)(hB:Region.lexB .any (l.take n).toArray=true)(iG:bP l n=true)
  (hs:Region.sinkB .any l.toArray n=true) (hc:Region.chainB .any l.toArray n=true) (hseq:Region.seqB .any l.toArray (l.length - n) n (aq l n)=true) (hC:C { w with drawn:=w.drawn+1 })
  (h:wpQuiet P (l.take n).toArray C (fun a'=>∀ w',C w'->wpList P l.toArray Q (l.drop n) a' w') (l.take n) a):(Code.region id l.toArray true).wp P Q a w:=by
 simp only [Region.lexB,Bool.and_eq_true] at hB;have j4:(l.take n).length=n:=by simp;omega
 have kT:(l.drop n).length=l.length - n:=by simp
 have H:=wpAnyQ_lex (C:=C) (md:=.any) hB.1 (l.take n) 0 (Array.replicate (l.take n).toArray.size false) a (by simp) (by simpa using hB.2) h;have inv0:HeadInv .any l.toArray n (Array.replicate l.toArray.size false) :=
  ⟨by simp,fun j oj _ hl=>(by rw [getD_replicate_false] at hl;cases hl),fun t _ ht=>getD_in (by simpa using ht) (getD_replicate_false _ _)⟩
 refine wp_region_any hm ?_;have:=eF (C:=C) (Q':=Q) (g:=l.length - n) hn iG hs hc (fun a' w' hw' hT=>by
  have:=wpAny_of_seq (md:=.any) (Q':=Q) (l.drop n) n (aq l n) a' w' (fun j=>by simp [List.getElem?_drop]) (by rw [kT];exact hseq) (hT w' hw')
  rwa [kT] at this) (l.take n).length (Array.replicate (l.take n).toArray.size false) (Array.replicate l.toArray.size false) a _ hC inv0 (by simp;omega) (fun i hi=>by
   rw [getD_in (by simpa using (by omega:i<l.length)) (getD_replicate_false _ _),getD_in (by simp;omega) (getD_replicate_false _ _)]) (by
   unfold aN;rw [List.filter_eq_self.2 (fun i hi=>by
    have:=List.mem_range.1 hi;rw [getD_in (by simp;omega) (getD_replicate_false _ _)];rfl),List.length_range]
   omega) H
 rw [j4,show n+(l.length - n)=l.toArray.size by simp;omega] at this;exact this
end
structure Growth (w:World) where
 tz9:World
 ok:Below w.heap.size w tz9
instance (w:World):Nonempty (Growth w):=⟨⟨w,Below.refl _ _⟩⟩
def ext(w:World)(u:Growth w):World:=u.tz9
theorem ak{w:World}{a:Addr}{v:Value}(h:w.cell? a=some v)(u:Growth w):(ext w u).cell? a=some v :=
 (u.ok.cell (World.block_lt_of_cell? w a h)).trans h
theorem au{w:World}{a:Addr}{b:Bool}(hl:a.block<w.heap.size)(h:w.frozen? a=b)(u:Growth w):(ext w u).frozen? a=b :=
 (u.ok.frozen (p:=a) hl).trans h
theorem cS{P:Program}{f:FuncId}{args:Array Value}{w:World}{u:Growth w}{v:Value}
  (h:Calls P f args (ext w u) fun e w'=>e=.returned v/\Below (ext w u).heap.size (ext w u) w'):Calls P f args (ext w u) fun e w''=>e=.returned v/\∃ u',w''=ext w u' :=
 h.mono fun _ w' ⟨he,hb⟩=>⟨he,⟨w',u.ok.trans (hb.mono u.ok.size)⟩,rfl⟩
theorem fk{P:Program}{f:FuncId}{args:Array Value}{w:World}{u:Growth w}{v:Value}
  (h:Calls P f args (ext w u) fun e w'=>e=.returned v/\ext w u=w'):Calls P f args (ext w u) fun e w''=>e=.returned v/\∃ u',w''=ext w u' :=
 h.mono fun _ w' ⟨he,hb⟩=>⟨he,u,hb.symm⟩
def ig(w:World):Growth w:=⟨{ w with drawn:=w.drawn+1 },⟨rfl,rfl,rfl,Nat.le_refl _,fun _ _=>rfl⟩⟩
theorem dS{P:Program}{id:Nat}{Q:Exit->Act->World->Prop}{a:Act}{w:World}{l:List Oper}(hm:P.follows .mixedOrders=true)(hB:Region.lexB .any l.toArray=true)
  (h:wpQuiet P l.toArray (fun w'=>∃ u,w'=ext w u) (fun a'=>∀ w',(∃ u,w'=ext w u)->Q .normal a' w') l a):(Code.region id l.toArray true).wp P Q a w :=
 wp_region_quiet (C:=fun w'=>∃ u,w'=ext w u) hm hB ⟨ig w,rfl⟩ (by simpa using h)
theorem aK{P:Program}{id:Nat}{Q:Exit->Act->World->Prop}{a:Act}{w:World}{l:List Oper}(n:Nat)(hm:P.follows .mixedOrders=true)(hn:n<l.length)(hB:Region.lexB .any (l.take n).toArray=true)(iG:bP l n=true)
  (hs:Region.sinkB .any l.toArray n=true) (hc:Region.chainB .any l.toArray n=true) (hseq:Region.seqB .any l.toArray (l.length - n) n (aq l n)=true)
  (h:wpQuiet P (l.take n).toArray (fun w'=>∃ u,w'=ext w u) (fun a'=>∀ w',(∃ u,w'=ext w u)->wpList P l.toArray Q (l.drop n) a' w') (l.take n) a):(Code.region id l.toArray true).wp P Q a w :=
 dD n hm hn hB iG hs hc hseq ⟨ig w,rfl⟩ h
theorem bH{w W:World}(h:Below w.heap.size w W)(u:Growth W):Below w.heap.size w (ext W u):=h.trans (u.ok.mono h.size)
end
section
open Go Go.RowKit
def c8(P:Program):List Oper->Act->Option Act
 |[],a=>some a
 |o :: l,a=>match o.guard,o.op with
  |none,.build t parts=>match P.built t (parts.map fun (i,x)=>(i,a.eval x)).toList with
   | some cells=>c8 P l (a.put o.dst (.agg cells))
   | none=>none
  |_,_=>none
section
variable {P : Program} {ops : Array Oper} {Q : Exit → Act → World → Prop} {w : World}
theorem bB:∀ (l rest:List Oper) (a a':Act),c8 P l a=some a'->wpList P ops Q rest a' w->wpList P ops Q (l++rest) a w
 |[],rest,a,a',hb,h=>by
  simp only [c8,Option.some.injEq] at hb;subst hb;exact h
 |o :: l,rest,a,a',hb,h=>by
  unfold c8 at hb
  split at hb
  ·rename_i t parts hg ho
   split at hb
   ·rename_i cells hc
    refine wpList_build hg t parts ho (by rw [hc];rfl) ?_;rw [hc];exact bB l rest _ a' hb h
   ·cases hb
  ·cases hb
theorem al{L:List Oper}{a:Act}(n:Nat)(hb:(c8 P (L.take n) a).isSome=true)(h:wpList P ops Q (L.drop n) ((c8 P (L.take n) a).getD a) w):wpList P ops Q L a w:=by
 obtain ⟨a',ha⟩:=Option.isSome_iff_exists.1 hb;rw [ha] at h;have:=bB (ops:=ops) (Q:=Q) (L.take n) (L.drop n) a a' ha h
 rwa [List.take_append_drop] at this
theorem an{o:Oper}{rest:List Oper}{a:Act}(hg:o.guard=none)(t:TypeId)(ho:o.op=.alloc t)(z:Value)(n:Nat)(hi:(P.info? t).map (fun i=>(i.zero,i.size))=some (some z,n))
  (h:wpList P ops Q rest (a.put o.dst (.pointer (some ⟨w.heap.size,0,none⟩))) (w.alloc (.cells z.cells t))):wpList P ops Q (o :: rest) a w:=by
 refine wpList_plain hg fun K hK=>?_
 have hz:=(zero_of_info (P:=P) hi).1 w;unfold Oper.wp execOp;simp only [ho,Instr.alloc,newVar,newRow,newObj,Sem.run_bind,hz,Result.andThen_ok];exact hK _ _ h
end
end
section
namespace Mix
def upon(P:Program)(C:World->Prop)(v:Value):Result Next->Prop
 | .ok (.value u) w'=>C w'/\u=v
 | .ok .skip w'=>C w'/\v=undef
 | .ok (.enter f args) w'=>Calls P f args w' (fun e w''=>e=.returned v/\C w'')
 | _=>False
section
variable (P : Program) (ops : Array Oper) (CL : Array Bool → World → Prop)
def Gives(i:Nat)(o:Oper)(v:Value)(a:Act):Prop :=
 (Region.wanted o (yielded ops a.tmps)=true/\∀ L w,L.size=ops.size->i ∈ Region.ready .any ops L->CL L w->upon P (CL (L.setIfInBounds i true)) v ((execOp a.eval o).run P w)) \/
 (Region.wanted o (yielded ops a.tmps)=false/\v=undef/\∀ L w,L.size=ops.size->i ∈ Region.ready .any ops L->CL L w->CL (L.setIfInBounds i true) w)
def At(i:Nat)(K:Act->Prop)(a:Act):Prop:=∃ o v,ops[i]? = some o/\Gives P ops CL i o v a/\K (a.put o.dst v)
def Any(Q:Act->Prop):Nat->Array Bool->Act->Prop
 | 0,L,a=>Region.ready .any ops L=[]/\Q a
 | f+1,L,a=>(Region.ready .any ops L=[]->Q a)/\∀ i ∈ Region.ready .any ops L,At P ops CL i (Any Q f (L.setIfInBounds i true)) a
def ip(Q:Act->Prop):List Oper->Nat->Act->Prop
 | [],_,a=>Q a
 | o :: rest,k,a=>∃ v,Gives P ops CL k o v a/\ip Q rest (k+1) (a.put o.dst v)
end
section
variable {P : Program} {ops : Array Oper} {CL : Array Bool → World → Prop}
theorem At.mono{i:Nat}{K K':Act->Prop}{a:Act}(h:∀ a,K a->K' a)(hh:At P ops CL i K a):At P ops CL i K' a:=by
 obtain ⟨o,v,ho,hy,hk⟩:=hh;exact ⟨o,v,ho,hy,h _ hk⟩
theorem Gives.same{i:Nat}{o:Oper}{v:Value}{a a':Act}(h:Gives P ops CL i o v a)(he:execOp a'.eval o=execOp a.eval o)(hw:Region.wanted o (yielded ops a'.tmps)=Region.wanted o (yielded ops a.tmps)):Gives P ops CL i o v a':=by
 unfold Gives at *;rw [he,hw];exact h
theorem wpOp_of{i:Nat}{L:Array Bool}{a:Act}{w:World}{K:Act->Prop}{K':Act->World->Prop}{Q':Exit->Act->World->Prop}(hL:L.size=ops.size)(hr:i ∈ Region.ready .any ops L)(hC:CL L w)
  (h:∀ a w',CL (L.setIfInBounds i true) w'->K a->K' a w') (hh:At P ops CL i K a):wpOp P ops Q' i K' a w:=by
 obtain ⟨o,v,ho,hy,hk⟩:=hh;unfold wpOp;simp only [ho]
 rcases hy with ⟨hw,hv⟩ | ⟨hw,rfl,hv⟩
 ·rw [if_pos hw];refine .inl ?_;have h3:=hv L w hL hr hC;unfold Oper.wp;generalize (execOp a.eval o).run P w=r at *
  cases r with
  |halt x w'=>exact h3.elim
  |ok n w' =>
   cases n <;> simp only [upon] at h3 <;> simp only [Oper.upon]
   case value u =>
    obtain ⟨h4,rfl⟩:=h3;exact h _ _ h4 hk
   case skip =>
    obtain ⟨h4,rfl⟩:=h3;exact h _ _ h4 hk
   case enter f args =>
    exact h3.mono fun e w'' ⟨he,hw''⟩=>by subst he;exact h _ _ hw'' hk
 ·rw [if_neg (by rw [hw];exact Bool.false_ne_true)];exact h _ _ (hv L w hL hr hC) hk
theorem fX{Q:Act->Prop}{Q':Exit->Act->World->Prop}(hQ:∀ L a w,L.size=ops.size->Region.ready .any ops L=[]->CL L w->Q a->Q' .normal a w) :
  ∀ (f:Nat) (L:Array Bool) (a:Act) (w:World),L.size=ops.size->CL L w->Any P ops CL Q f L a->wpAny P .any ops Q' f L a w:=by
 intro f
 induction f with
 |zero=>exact fun L a w hs hC h=>⟨h.1,hQ L a w hs h.1 hC h.2⟩
 |succ f ih =>
  exact fun L a w hs hC h=>⟨fun h0=>hQ L a w hs h0 hC (h.1 h0),fun i hi=>wpOp_of hs hi hC (fun a' w' jp hK=>ih _ a' w' (by simpa using hs) jp hK) (h.2 i hi)⟩
theorem At.swap{i j:Nat}{oi oj:Oper}{v:Value}{K:Act->Prop}{a:Act}(hj:ops[j]? = some oj)(hap:oi.apart ops oj=true)(hsi:∀ cs b,oi.op≠.select cs b)(hsj:∀ cs b,oj.op≠.select cs b)
  (hy:Gives P ops CL i oi v a) (h:At P ops CL j K (a.put oi.dst v)):At P ops CL j (fun a'=>Gives P ops CL i oi v a'/\K (a'.put oi.dst v)) a:=by
 obtain ⟨p1,p2,p3⟩:=Oper.apart_spec hap;obtain ⟨o,u,ho,hg,hk⟩:=h;obtain rfl:o=oj:=Option.some.inj (ho.symm.trans hj);refine ⟨o,u,ho,hg.same (execOp_put o hsj a oi.dst v p1).symm (wanted_put o a oi.dst v p1).symm,?_,?_⟩
 ·exact hy.same (execOp_put oi hsi a o.dst u p3) (wanted_put oi a o.dst u p3)
 ·rw [<-Act.put_comm a v u p2];exact hk
theorem Any.first{Q:Act->Prop}{i:Nat}{oi:Oper}{v:Value}(hi:ops[i]? = some oi)(hsel:∀ (j:Nat) (o:Oper) cs b,ops[j]? = some o->o.op≠.select cs b) :
  ∀ (f:Nat) (L:Array Bool) (a:Act),
   (∀ j oj,ops[j]? = some oj->j≠i->L.getD j true=false->(∀ e ∈ oj.after,Region.binds .any e=true->e.on≠i)->oi.apart ops oj=true) ->
   i ∈ Region.ready .any ops L->Gives P ops CL i oi v a->Any P ops CL Q f (L.setIfInBounds i true) (a.put oi.dst v)->Any P ops CL Q (f+1) L a:=by
 intro f
 induction f with
 |zero =>
  intro L a _ hr hy H;refine ⟨fun h=>(by rw [h] at hr;cases hr),fun j hj=>?_⟩
  rcases Nat.decEq j i with i2 | i2
  ·have:=ready_mono hj i2;rw [H.1] at this
   cases this
  ·subst i2;exact ⟨oi,v,hi,hy,H⟩
 |succ f ih =>
  intro L a hfree hr hy H;refine ⟨fun h=>(by rw [h] at hr;cases hr),fun j hj=>?_⟩
  rcases Nat.decEq j i with i2 | i2
  ·obtain ⟨hun,oj,kW,hall⟩:=mem_ready.1 hj;obtain ⟨hiu,_⟩:=mem_ready.1 hr;have hno:∀ e ∈ oj.after,Region.binds .any e=true->e.on≠i:=by
    intro e he hb heq;have h1:=hall e he hb;rw [heq] at h1
    rcases Nat.lt_or_ge i L.size with h' | h'
    ·simp [h'] at hiu h1
     rw [hiu] at h1
     cases h1
    ·simp [Array.getElem?_eq_none h'] at h1
   have h2:=At.swap kW (hfree j oj kW i2 hun hno) (fun cs b=>hsel i oi cs b hi) (fun cs b=>hsel j oj cs b kW) hy (H.2 j (ready_mono hj i2));refine h2.mono fun a' h3=>ih (L.setIfInBounds j true) a' (fun k ok hk hki hu hn=>?_) (ready_mono hr (Ne.symm i2)) h3.1 ?_
   ·refine hfree k ok hk hki ?_ hn
    by_cases hjk:j=k
    ·subst hjk;exact hun
    ·rw [getD_set_ne true hjk] at hu;exact hu
   ·rw [Array.setIfInBounds_comm _ _ i2];exact h3.2
  ·subst i2;exact ⟨oi,v,hi,hy,H⟩
theorem Any.lex{Q:Act->Prop}(hs:Region.noSelect ops=true):∀ (l:List Oper) (k:Nat) (L:Array Bool) (a:Act),(∀ j,l[j]? = ops[k+j]?) ->
  Region.lexFrom .any ops l.length k L=true->ip P ops CL Q l k a->Any P ops CL Q l.length L a:=by
 intro l
 induction l with
 |nil=>exact fun k L a _ hB h=>⟨by simpa [Region.lexFrom] using hB,h⟩
 |cons o l ih =>
  intro k L a hl hB h;have h0:ops[k]? = some o:=by simpa using (hl 0).symm
  simp only [List.length_cons,Region.lexFrom,Bool.and_eq_true] at hB;obtain ⟨⟨hr,hf⟩,hB'⟩:=hB;obtain ⟨v,hy,hK⟩:=h;exact Any.first h0 (Region.noSelect_spec hs) l.length L a (Region.free_spec h0 hf) (by simpa using hr) hy
   (ih (k+1) _ _ (fun j=>by have:=hl (j+1);simpa [Nat.add_assoc,Nat.add_comm 1 j] using this) hB' hK)
end
theorem all_listed{l:List Oper}{L:Array Bool}(iG:bP (l++[default]) l.length=true)(hs:L.size=l.length)(h:Region.ready .any l.toArray L=[]):L=Array.replicate l.length true:=by
 have h0:∀ i,i<l.length->L.getD i true=true:=by
  intro i
  induction i using Nat.strongRecOn with
  |_ i ih =>
   intro hi
   cases hl:L.getD i true with
   |true=>rfl
   |false =>
    exfalso;have ho:l[i]? = some l[i]:=List.getElem?_eq_getElem hi;have iH:(l++[default])[i]? = some l[i]:=by rw [List.getElem?_append_left hi];exact ho
    have hm:i ∈ Region.ready .any l.toArray L:=by
     refine mem_ready.2 ⟨hl,l[i],by simp,fun e he hb=>?_⟩;have hlt:=(dC iG hi iH).1 e he hb;have:=ih e.on hlt (by omega);rw [bI (by omega)];exact this
    rw [h] at hm
    cases hm
 apply Array.ext
 ·simp [hs]
 ·intro i h1 h2;have:=h0 i (by omega);rw [Array.getD_eq_getD_getElem?,Array.getElem?_eq_getElem h1] at this
  simpa using this
theorem region{P:Program}{id:Nat}{Q:Exit->Act->World->Prop}{a:Act}{w:World}{l:List Oper}(CL:Array Bool->World->Prop)(hm:P.follows .mixedOrders=true)(hB:Region.lexB .any l.toArray=true)(iG:bP (l++[default]) l.length=true)
  (hC:CL (Array.replicate l.length false) { w with drawn:=w.drawn+1 }) (h:ip P l.toArray CL (fun a'=>∀ w',CL (Array.replicate l.length true) w'->Q .normal a' w') l 0 a):(Code.region id l.toArray true).wp P Q a w:=by
 simp only [Region.lexB,Bool.and_eq_true] at hB;refine wp_region_any hm ?_;have:=Any.lex (CL:=CL) hB.1 l 0 (Array.replicate l.toArray.size false) a (by simp) (by simpa using hB.2) h;refine fX (Q:=fun a'=>∀ w',CL (Array.replicate l.length true) w'->Q .normal a' w') (fun L a' w' hs hr jp hq=>?_) _ _ _ _ (by simp) (by simpa using hC) (by simpa using this);rw [all_listed iG (by simpa using hs) hr] at jp;exact hq w' jp
section
variable {P : Program} {ops : Array Oper} {CL : Array Bool → World → Prop} {Q : Act → Prop}
def iE(o:Oper):Bool:=match o.op with | .move _ | .assign _ | .load _ _ | .binOp _ _ _ _ _ | .unOp _ _ _ | .convert _ _ _ | .slice _ _ _ _ _ | .fieldAddr _ _ _ | .field _ _ _ | .indexAddr _ _ _ | .index _ _ _ | .extract _ _ | .build _ _ | .makeInterface _ _ | .pick _ _ _=>false | _=>true
structure Spot (CL:Array Bool->World->Prop) where
 listed:Array Bool
 tz9:World
 ok:CL listed tz9
end
theorem put_lit(l:List Value)(d:List Deferred)(n:Nat)(v:Value):(Act.mk l.toArray d).put (some n) v=⟨(l.set n v).toArray,d⟩:=by
 unfold Act.put
 simp
def one(L:Array Bool)(i:Nat):Nat:=if L.getD i false=true then 1 else 0
theorem one_ne{L:Array Bool}{i j:Nat}(h:i≠j):one (L.setIfInBounds i true) j=one L j:=by
 unfold one;rw [getD_set_ne false h]
theorem one_set{L:Array Bool}{i:Nat}(h:i<L.size):one (L.setIfInBounds i true) i=1:=by
 unfold one;rw [Array.getD_eq_getD_getElem?,Array.getElem?_setIfInBounds_self_of_lt h]
 rfl
theorem one_ready{P:Array Oper}{L:Array Bool}{i:Nat}(h:i ∈ Region.ready .any P L):one L i=0:=by
 unfold one;have h0:=(mem_ready.1 h).1
 rcases Nat.lt_or_ge i L.size with h' | h'
 ·rw [bI h',h0];rfl
 ·rw [Array.getD_eq_getD_getElem?,Array.getElem?_eq_none h'] at h0
  cases h0
theorem one_un{L:Array Bool}{i:Nat}(h:L.getD i false=false):one L i=0:=by
 unfold one;rw [h];rfl
end Mix
end
section
open Go.RowKit
def Has(w:World)(g:Nat)(C:List Value)(t:TypeId):Prop:=w.heap[g]? = some (.cells C.toArray t (0,0))
theorem Has.lt{w:World}{g:Nat}{C:List Value}{t:TypeId}(h:Has w g C t):g<w.heap.size:=(Array.getElem?_eq_some_iff.1 h).1
theorem Has.cell{w:World}{g:Nat}{C:List Value}{t:TypeId}(h:Has w g C t)(i:Nat)(v:Value)(hv:C[i]? = some v):w.cell? ⟨g,i,none⟩=some v:=by
 rw [cell_of_row w g i C.toArray t (0,0) h];simpa using hv
theorem Has.free{w:World}{g:Nat}{C:List Value}{t:TypeId}(h:Has w g C t)(i:Nat):w.frozen? ⟨g,i,none⟩=false:=frozen_of_row w g i C.toArray t h
theorem Has.new(w:World)(C:List Value)(t:TypeId):Has (w.alloc (.cells C.toArray t)) w.heap.size C t:=heap_alloc_new w _
theorem Has.set{w:World}{g:Nat}{C:List Value}{t:TypeId}(h:Has w g C t)(i:Nat)(v:Value):Has (w.setCell ⟨g,i,none⟩ v) g (C.set i v) t:=by
 have:=heap_setCell_same w g i C.toArray t v h;unfold Has;rw [this]
 simp
theorem Has.alloc{w:World}{g:Nat}{C:List Value}{t:TypeId}(h:Has w g C t)(o:Obj):Has (w.alloc o) g C t:=by
 have hl:=h.lt;unfold Has World.alloc at *;simp only;rw [Array.getElem?_push_lt hl,<-Array.getElem?_eq_getElem hl];exact h
theorem Has.drewN{w:World}{g:Nat}{C:List Value}{t:TypeId}(h:Has w g C t)(n:Nat):Has (w.drewN n) g C t:=h
theorem Has.below{w w':World}{g B:Nat}{C:List Value}{t:TypeId}(h:Has w g C t)(hb:Below B w w')(hg:g<B):Has w' g C t:=(hb.block g hg).trans h
structure But (g B:Nat) (w w':World):Prop where
 os:w'.os=w.os
 tape:w'.tape=w.tape
 output:w'.output=w.output
 size:w.heap.size<=w'.heap.size
 block:∀ k,k<B->k≠g->w'.heap[k]? = w.heap[k]?
theorem But.refl(g B:Nat)(w:World):But g B w w:=⟨rfl,rfl,rfl,Nat.le_refl _,fun _ _ _=>rfl⟩
theorem But.trans{g B:Nat}{a b c:World}(h:But g B a b)(k:But g B b c):But g B a c :=
 ⟨k.os.trans h.os,k.tape.trans h.tape,k.output.trans h.output,Nat.le_trans h.size k.size,fun i hi hn=>(k.block i hi hn).trans (h.block i hi hn)⟩
theorem But.ofBelow{g B:Nat}{w w':World}(h:Below B w w'):But g B w w':=⟨h.os,h.tape,h.output,h.size,fun k hk _=>h.block k hk⟩
theorem But.mono{g B B':Nat}{w w':World}(h:But g B w w')(hb:B'<=B):But g B' w w':=⟨h.os,h.tape,h.output,h.size,fun k hk hn=>h.block k (by omega) hn⟩
theorem But.below{g B B':Nat}{w w':World}(h:But g B w w')(hb:B'<=B)(hg:B'<=g):Below B' w w':=⟨h.os,h.tape,h.output,h.size,fun k hk=>h.block k (by omega) (by omega)⟩
theorem But.set{g B:Nat}{w w':World}(h:But g B w w')(i:Nat)(v:Value):But g B w (w'.setCell ⟨g,i,none⟩ v) :=
 ⟨h.os,h.tape,h.output,by rw [World.size_setCell];exact h.size,fun k hk hn=>by rw [heap_setCell_other w' ⟨g,i,none⟩ k v hn];exact h.block k hk hn⟩
theorem But.alloc{g B:Nat}{w w':World}(h:But g B w w')(hB:B<=w.heap.size)(o:Obj):But g B w (w'.alloc o):=by
 have:=h.size;exact h.trans (.ofBelow ((Below.refl B w').alloc (by omega) o))
theorem But.drewN{g B:Nat}{w w':World}(h:But g B w w')(n:Nat):But g B w (w'.drewN n):=⟨h.os,h.tape,h.output,h.size,h.block⟩
theorem Has.but{w w':World}{g g' B:Nat}{C:List Value}{t:TypeId}(h:Has w g C t)(hb:But g' B w w')(hg:g<B)(hn:g≠g'):Has w' g C t:=(hb.block g hg hn).trans h
end
def Kept(w w':World)(base:Nat)(e:TypeId)(size:Nat)(D C:List Value)(m:Nat):Prop :=
 (∀ v n xs,w.ownsRow base e size v n xs->xs <+: D->w'.ownsRow base e size v n xs)/\∀ g,w.ownsRow base e size (.slice (some ⟨g,0,none⟩) m m) m C->w'.ownsRow base e size (.slice (some ⟨g,0,none⟩) m m) m C
theorem Kept.refl(w:World)(base:Nat)(e:TypeId)(size:Nat)(D C:List Value)(m:Nat):Kept w w base e size D C m:=⟨fun _ _ _ h _=>h,fun _ h=>h⟩
theorem Kept.below{w w':World}(hb:Below w.heap.size w w')(base:Nat)(e:TypeId)(size:Nat)(D C:List Value)(m:Nat):Kept w w' base e size D C m:=⟨fun _ _ _ h _=>cA h hb,fun _ h=>cA h hb⟩
section
abbrev aE:=Nat->Prop
structure KeepZ (Z:aE) (w w':World):Prop where
 size:w.heap.size<=w'.heap.size
 block:∀ b,b<w.heap.size->Z b->w'.heap[b]? = w.heap[b]?
theorem KeepZ.refl(Z:aE)(w:World):KeepZ Z w w:=⟨Nat.le_refl _,fun _ _ _=>rfl⟩
theorem KeepZ.trans{Z:aE}{a b c:World}(h:KeepZ Z a b)(k:KeepZ Z b c):KeepZ Z a c :=
 ⟨Nat.le_trans h.size k.size,fun i hi hz=>(k.block i (Nat.lt_of_lt_of_le hi h.size) hz).trans (h.block i hi hz)⟩
theorem KeepZ.mono{Z Y:aE}{w w':World}(h:KeepZ Z w w')(hz:∀ b,b<w.heap.size->Y b->Z b):KeepZ Y w w':=⟨h.size,fun b hb hy=>h.block b hb (hz b hb hy)⟩
theorem KeepZ.below{B:Nat}{w w':World}(h:Below B w w'):KeepZ (fun b=>b<B) w w':=⟨h.size,fun b _ hz=>h.block b hz⟩
theorem KeepZ.all{w w':World}(h:Below w.heap.size w w')(Z:aE):KeepZ Z w w':=⟨h.size,fun b hb _=>h.block b hb⟩
theorem KeepZ.grown{w w':World}{row:Option Nat}(h:w.grownBy w' row):KeepZ (fun b=>row≠some b) w w':=⟨h.size,fun b hb hz=>h.block b hb (Ne.symm hz)⟩
theorem KeepZ.but{g:Nat}{w w':World}(h:But g w.heap.size w w'):KeepZ (fun b=>b≠g) w w':=⟨h.size,fun b hb hz=>h.block b hb hz⟩
theorem KeepZ.cell{Z:aE}{w w':World}(h:KeepZ Z w w'){b o:Nat}(hb:b<w.heap.size)(hz:Z b):w'.cell? ⟨b,o,none⟩=w.cell? ⟨b,o,none⟩:=World.cell?_of_block (a:=⟨b,o,none⟩) (h.block b hb hz)
theorem KeepZ.has{Z:aE}{w w':World}(h:KeepZ Z w w'){g:Nat}{C:List Value}{t:TypeId}(hg:Has w g C t)(hz:Z g):Has w' g C t:=(h.block g hg.lt hz).trans hg
theorem KeepZ.own{Z:aE}{w w':World}(h:KeepZ Z w w'){B e size n:Nat}{v:Value}{xs:List Value}(ho:w.ownsRow B e size v n xs)(hz:∀ b,v.ownBlock=some b->Z b):w'.ownsRow B e size v n xs:=by
 refine ⟨ho.1,?_⟩
 rcases ho.2 with hn | ⟨g,cap,cur,rfl,hB,hg,rest⟩
 ·exact .inl hn
 ·exact .inr ⟨g,cap,cur,rfl,hB,(h.block g (Array.getElem?_eq_some_iff.1 hg).1 (hz g rfl)).trans hg,rest⟩
structure Elem (α:Type) where
 size:Nat
 zero:α
 rep:aE->World->List Value->α->Prop
 len:∀ {Z:aE} {w:World} {C:List Value} {x:α},rep Z w C x->C.length=size
 one:∀ {Z:aE} {w:World} {C:List Value} {x:α},rep Z w C x->∀ u ∈ C,u.oneCell'=true
 keep:∀ {Z Y:aE} {w w':World} {C:List Value} {x:α},KeepZ Z w w'->(∀ b,b<w.heap.size->Z b->Y b)->rep Z w C x->rep Y w' C x
def HeldE{α:Type}(E:Elem α)(Z:aE)(w:World)(v:Value)(L:List α):Prop :=
 ∃ ao cap,v=.slice ao L.length cap/\L.length<=cap/\cap<=maxLen/\(ao=none->L=[]/\cap=0) /\
  ∀ i,i<L.length->∃ b off,ao=some ⟨b,off,none⟩/\b<w.heap.size/\Z b/\∃ C,(∀ j,j<E.size->w.cell? ⟨b,off+i * E.size+j,none⟩=C[j]?)/\E.rep Z w C (L.getD i E.zero)
section
variable {α : Type} {E : Elem α} {Z Y : aE} {w w' : World} {v u : Value} {L M : List α}
theorem HeldE.nil(E:Elem α)(Z:aE)(w:World):HeldE E Z w (.slice none 0 0) []:=⟨none,0,rfl,Nat.le_refl _,Nat.zero_le _,fun _=>⟨rfl,rfl⟩,fun i hi=>absurd hi (Nat.not_lt_zero _)⟩
theorem HeldE.keep(h:HeldE E Z w v L)(hk:KeepZ Z w w')(hy:∀ b,b<w.heap.size->Z b->Y b):HeldE E Y w' v L:=by
 obtain ⟨ao,cap,rfl,hl,hm,hn,hc⟩:=h;refine ⟨ao,cap,rfl,hl,hm,hn,fun i hi=>?_⟩;obtain ⟨b,off,rfl,hb,hz,C,hC,hr⟩:=hc i hi;exact ⟨b,off,rfl,Nat.lt_of_lt_of_le hb hk.size,hy b hb hz,C,fun j hj=>(hk.cell hb hz).trans (hC j hj),E.keep hk hy hr⟩
theorem HeldE.kept(h:HeldE E Z w v L)(hk:KeepZ Z w w'):HeldE E Z w' v L:=h.keep hk fun _ _ hz=>hz
theorem HeldE.below(h:HeldE E Z w v L)(hb:Below w.heap.size w w'):HeldE E Z w' v L:=h.kept (.all hb Z)
theorem HeldE.zone(h:HeldE E Z w v L)(hy:∀ b,b<w.heap.size->Z b->Y b):HeldE E Y w v L:=h.keep (.refl _ _) hy
theorem HeldE.len(h:HeldE E Z w v L):∃ ao cap,v=.slice ao L.length cap:=by
 obtain ⟨ao,cap,rfl,_⟩:=h;exact ⟨ao,cap,rfl⟩
theorem HeldE.max(h:HeldE E Z w v L):L.length<=9223372036854775807:=by
 obtain ⟨ao,cap,rfl,hl,hm,_⟩:=h;unfold maxLen at hm;omega
theorem HeldE.spots{ao:Option Addr}{n cap:Nat}(h:HeldE E Z w (.slice ao n cap) L):n=L.length/\n<=cap/\∀ i,i<L.length->∃ b off,ao=some ⟨b,off,none⟩/\b<w.heap.size/\Z b/\∃ C,(∀ j,j<E.size->w.cell? ⟨b,off+i * E.size+j,none⟩=C[j]?)/\E.rep Z w C (L.getD i E.zero):=by
 obtain ⟨ao',cap',he,hl,_,_,hc⟩:=h
 cases he
 exact ⟨rfl,hl,hc⟩
theorem HeldE.nilL{n cap:Nat}(h:HeldE E Z w (.slice none n cap) L):L=[]/\n=0/\cap=0:=by
 obtain ⟨ao',cap',he,hl,_,hn,hc⟩:=h
 cases he
 obtain ⟨rfl,rfl⟩:=hn rfl;exact ⟨rfl,rfl,rfl⟩
theorem HeldE.part{ao:Option Addr}{n cap:Nat}(h:HeldE E Z w (.slice ao n cap) L)(lo hi:Nat)(h1:lo<=hi)(h2:hi<=L.length) :
  ∀ a' cap',(ao=none->a'=none/\cap'=0)->(∀ b off,ao=some ⟨b,off,none⟩->lo<hi->a'=some ⟨b,off+lo * E.size,none⟩)->(∀ a,ao=some a->a'≠none)->hi - lo<=cap'->cap'<=maxLen->HeldE E Z w (.slice a' (hi - lo) cap') ((L.drop lo).take (hi - lo)):=by
 intro a' cap' hn hs hne hc hm;obtain ⟨_,_,hsp⟩:=h.spots;have hlen:((L.drop lo).take (hi - lo)).length=hi - lo:=by simp;omega
 refine ⟨a',cap',by rw [hlen],by rw [hlen];exact hc,hm,fun he=>?_,fun i hi'=>?_⟩
 ·cases ao with
  |none =>
   obtain ⟨rfl,rfl,rfl⟩:=h.nilL;exact ⟨by simp,(hn rfl).2⟩
  |some a=>exact absurd he (hne a rfl)
 ·rw [hlen] at hi';obtain ⟨b,off,rfl,hb,hz,C,hC,hr⟩:=hsp (lo+i) (by omega);refine ⟨b,off+lo * E.size,hs b off rfl (by omega),hb,hz,C,fun j hj=>?_,?_⟩
  ·rw [<-hC j hj,Nat.add_mul,Nat.add_assoc off]
  ·rw [show ((L.drop lo).take (hi - lo)).getD i E.zero=L.getD (lo+i) E.zero from by simp [List.getD,List.getElem?_take,hi',List.getElem?_drop]];exact hr
end
def dG(k:IntKind):Elem Int where
 size:=1
 zero:=0
 rep:=fun _ _ C x=>C=[.int k x]
 len:=by rintro _ _ _ _ rfl;rfl
 one:=by
  rintro _ _ _ _ rfl u hu
  simp at hu
  subst hu;rfl
 keep:=fun _ _ h=>h
def slE{α:Type}(E:Elem α):Elem (List α) where
 size:=1
 zero:=[]
 rep:=fun Z w C L=>∃ v,C=[v]/\HeldE E Z w v L
 len:=by rintro _ _ _ _ ⟨v,rfl,_⟩;rfl
 one:=by
  rintro _ _ _ _ ⟨v,rfl,h⟩ u hu
  simp at hu
  subst hu;obtain ⟨ao,cap,rfl,_⟩:=h
  rfl
 keep:=by
  rintro _ _ _ _ _ _ hk hy ⟨v,rfl,h⟩;exact ⟨v,rfl,h.keep hk hy⟩
theorem HeldE.ints{k:IntKind}{Z:aE}{w:World}{v:Value}{xs:List Int}(h:HeldE (dG k) Z w v xs):Held k w v xs:=by
 obtain ⟨ao,cap,rfl,_,_,hn,hc⟩:=h;refine ⟨ao,cap,rfl,hn,fun i hi=>?_⟩;obtain ⟨b,off,rfl,hb,_,C,hC,rfl⟩:=hc i hi;refine ⟨b,off,rfl,hb,?_⟩;have:=hC 0 (Nat.lt_succ_self 0)
 simpa [dG] using this
theorem fl{k:IntKind}{Z:aE}{w:World}{ao:Option Addr}{n cap:Nat}{xs:List Int}(h:Held k w (.slice ao n cap) xs)(hc:n<=cap)(hm:cap<=maxLen)(hz:∀ a,ao=some a->a.block<w.heap.size->Z a.block):HeldE (dG k) Z w (.slice ao n cap) xs:=by
 obtain ⟨ao',cap',he,hn,hcc⟩:=h
 cases he
 refine ⟨ao,cap,rfl,hc,hm,hn,fun i hi=>?_⟩;obtain ⟨b,off,rfl,hb,h1⟩:=hcc i hi;refine ⟨b,off,rfl,hb,hz _ rfl hb,[.int k (xs.getD i 0)],fun j hj=>?_,rfl⟩;have hj0:j=0:=by simp [dG] at hj;omega
 subst hj0
 simpa [dG] using h1
theorem cV{s:Nat}:∀ {CS:List (List Value)},(∀ C ∈ CS,C.length=s)->CS.flatten.length=CS.length * s
 |[],_=>by simp
 |C :: CS,h=>by
  rw [List.flatten_cons,List.length_append,cV (fun D hD=>h D (List.mem_cons_of_mem _ hD)),h C (by simp),List.length_cons,Nat.add_mul];omega
theorem dq{s:Nat}:∀ {CS:List (List Value)},(∀ C ∈ CS,C.length=s)->∀ i j,i<CS.length->j<s->CS.flatten[i * s+j]? = (CS.getD i [])[j]?
 |[],_,i,_,hi,_=>absurd hi (Nat.not_lt_zero _)
 |C :: CS,h,0,j,_,hj=>by
  rw [List.flatten_cons,Nat.zero_mul,Nat.zero_add,List.getElem?_append_left (by rw [h C (by simp)];exact hj)]
  rfl
 |C :: CS,h,i+1,j,hi,hj=>by
  have:=dq (fun D hD=>h D (List.mem_cons_of_mem _ hD)) i j (by simpa using hi) hj;rw [List.flatten_cons,List.getElem?_append_right (by rw [h C (by simp),Nat.add_mul];omega),h C (by simp),show (i+1) * s+j - s=i * s+j by rw [Nat.add_mul];omega,this]
  rfl
def OwnE{α:Type}(E:Elem α)(Z:aE)(w:World)(B:Nat)(ty:TypeId)(v:Value)(L:List α):Prop :=
 ∃ CS:List (List Value),w.ownsRow B ty E.size v L.length CS.flatten/\CS.length=L.length/\∀ i,i<L.length->E.rep (fun b=>Z b/\v.ownBlock≠some b) w (CS.getD i []) (L.getD i E.zero)
section
variable {α : Type} {E : Elem α} {Z Y : aE} {w w' : World} {v u : Value} {L M : List α} {B : Nat} {ty : TypeId}
theorem dH{Z:aE}{CS:List (List Value)}(hl:CS.length=L.length)(h:∀ i,i<L.length->E.rep Z w (CS.getD i []) (L.getD i E.zero)):∀ C ∈ CS,C.length=E.size:=by
 intro C hC;obtain ⟨i,hi,rfl⟩:=List.getElem_of_mem hC;have:=E.len (h i (by omega))
 rwa [show CS.getD i []=CS[i] from by simp [List.getD,List.getElem?_eq_getElem hi]] at this
theorem OwnE.nil(E:Elem α)(Z:aE)(w:World)(B:Nat)(ty:TypeId):OwnE E Z w B ty (.slice none 0 0) []:=⟨[],World.ownsRow_nil _ _ _ _,rfl,fun i hi=>absurd hi (Nat.not_lt_zero _)⟩
theorem OwnE.empty(h:w.ownsRow B ty E.size v 0 []):OwnE E Z w B ty v []:=⟨[],h,rfl,fun i hi=>absurd hi (Nat.not_lt_zero _)⟩
theorem OwnE.lt(h:OwnE E Z w B ty v L):∀ k,v.ownBlock=some k->B<=k/\k<w.heap.size:=by
 obtain ⟨CS,h,_⟩:=h;exact h.lt
theorem OwnE.keep(h:OwnE E Z w B ty v L)(hk:KeepZ (fun b=>Z b\/v.ownBlock=some b) w w')(hy:∀ b,b<w.heap.size->Z b->Y b):OwnE E Y w' B ty v L:=by
 obtain ⟨CS,h1,h2,h3⟩:=h;refine ⟨CS,hk.own h1 fun b hb=>.inr hb,h2,fun i hi=>E.keep (hk.mono fun b _ hz=>.inl hz.1) (fun b hb hz=>⟨hy b hb hz.1,hz.2⟩) (h3 i hi)⟩
theorem OwnE.below(h:OwnE E Z w B ty v L)(hb:Below w.heap.size w w'):OwnE E Z w' B ty v L:=h.keep (.all hb _) fun _ _ hz=>hz
theorem OwnE.base(h:OwnE E Z w B ty v L){B':Nat}(hb:B'<=B):OwnE E Z w B' ty v L:=by
 obtain ⟨CS,⟨h1,h2⟩,h3,h4⟩:=h;refine ⟨CS,⟨h1,?_⟩,h3,h4⟩
 rcases h2 with h2 | ⟨g,cap,cur,rfl,hB,rest⟩
 ·exact .inl h2
 ·exact .inr ⟨g,cap,cur,rfl,by omega,rest⟩
theorem OwnE.held(h:OwnE E Z w B ty v L)(hz:∀ b,B<=b->b<w.heap.size->Z b):HeldE E Z w v L:=by
 obtain ⟨CS,h1,h2,h3⟩:=h;have jB:=dH h2 h3
 rcases h1.2 with ⟨rfl,h0⟩ | ⟨g,cap,cur,rfl,hB,hg,hn,hmx,_⟩
 ·have:L=[]:=List.eq_nil_of_length_eq_zero h0;subst this;exact HeldE.nil _ _ _
 ·refine ⟨some ⟨g,0,none⟩,cap,rfl,hn,hmx,(fun e=>by cases e),fun i hi=>?_⟩;have hgl:=(Array.getElem?_eq_some_iff.1 hg).1;refine ⟨g,0,rfl,hgl,hz g hB hgl,CS.getD i [],fun j hj=>?_,E.keep (.refl _ _) (fun b _ h=>h.1) (h3 i hi)⟩;rw [Nat.zero_add,h1.cellAt (i * E.size+j) (by
   have:i * E.size+E.size<=L.length * E.size:=by rw [<-Nat.succ_mul];exact Nat.mul_le_mul_right _ hi
   omega)]
  exact dq jB i j (by omega) hj
theorem OwnE.ints{k:IntKind}{Z:aE}{w:World}{B:Nat}{ty:TypeId}{v:Value}{xs:List Int}(h:OwnE (dG k) Z w B ty v xs):w.ownsRow B ty 1 v xs.length (xs.map (Value.int k)):=by
 obtain ⟨CS,h1,h2,h3⟩:=h;have e:CS.flatten=xs.map (Value.int k):=by
  apply List.ext_getElem?
  intro i;have jB:∀ C ∈ CS,C.length=1:=dH h2 h3
  by_cases hi:i<xs.length
  ·have:=dq jB i 0 (by omega) (by omega);rw [Nat.mul_one,Nat.add_zero] at this;rw [this,show CS.getD i []=[.int k (xs.getD i 0)] from h3 i hi]
   simp [List.getD,List.getElem?_eq_getElem hi]
  ·rw [List.getElem?_eq_none (by rw [cV jB];omega),List.getElem?_eq_none (by simp;omega)]
 rw [<-e];exact h1
theorem OwnE.lit(w:World)(E:Elem α)(CS:List (List Value))(L:List α)(n:Nat)(hn:L.length=n)(hl:CS.length=n)(hb:B<=w.heap.size)(hm:n<=maxLen)(hr:∀ i,i<n->E.rep Z w (CS.getD i []) (L.getD i E.zero))(C:Array Value)(hC:C=CS.flatten.toArray) :
  OwnE E Z (w.alloc (.cells C ty)) B ty (.slice (some ⟨w.heap.size,0,none⟩) n n) L:=by
 subst hC hn;have jB:=dH hl hr;refine ⟨CS,?_,hl,fun i hi=>E.keep (Z:=fun b=>Z b/\b<w.heap.size) (.all (iF _ _) _) (fun b hb hz=>⟨hz.1,fun e=>?_⟩) (E.keep (.refl _ _) (fun b hb hz=>⟨hz,hb⟩) (hr i hi))⟩
 ·have:=World.ownsRow_lit (base:=B) (e:=ty) (size:=E.size) w CS.flatten.toArray L.length hb hm (by simp only [List.size_toArray];rw [cV jB,hl])
  simpa using this
 ·simp only [Value.ownBlock,Option.some.injEq] at e;omega
end
end
section
section
variable {α : Type} {E : Elem α} {Z Y : aE} {w w' : World} {v u : Value} {L M : List α} {B : Nat} {ty : TypeId}
theorem HeldE.apart{B:Nat}(h:HeldE E (fun b=>b<B) w u M)(ho:∀ k,v.ownBlock=some k->B<=k/\k<w'.heap.size):HeldE E (fun b=>True/\v.ownBlock≠some b) w u M:=h.zone fun b _ hz=>⟨trivial,fun e=>by have:=(ho b e).1;omega⟩
end
section
variable {P : Program} {α : Type} {E : Elem α} {Z Y : aE} {w : World} {v u : Value} {L M : List α} {B : Nat} {ty : TypeId}
end
end
section
open Go.Deep
def fC(P:Program){α:Type}(E:Elem α)(ok:α->Prop)(t:TypeId):Prop :=
 P.cellsOf t=E.size/\∀ {H:Type} (enc:TypeId × Value->H) (W:World) (base fuel:Nat) (cs:List Value) (x:DataW H × List MemPlace),DataW.trod enc P W base (fun _=>true) true fuel t cs=some x->∃ y,E.rep (fun b=>b<W.heap.size) W cs y/\ok y
section
variable {P : Program} {α β γ : Type} {E : Elem α} {F : Elem β} {G : Elem γ} {ok : α → Prop} {ok' : β → Prop} {ok'' : γ → Prop} {t e : TypeId}
theorem f5{k:IntKind}(hu:P.underlying t=some (.int k))(hc:P.cellsOf t=1):fC P (dG k) (fun n=>(Lit.int k n).wf=true) t:=by
 refine ⟨hc,fun enc W base fuel cs x h=>?_⟩;obtain ⟨n,rfl,_,hw⟩:=DataW.trod_int hu h;exact ⟨n,rfl,hw⟩
theorem eY(hu:P.underlying t=some (.slice e))(hc:P.cellsOf t=1)(h0:0<E.size)(he:fC P E ok e):fC P (slE E) (fun L=>∀ x ∈ L,ok x) t:=by
 refine ⟨hc,fun {H} enc W base fuel cs x h=>?_⟩;obtain ⟨hce,hop⟩:=he
 rcases open_slice hu h with ⟨rfl,_⟩ | ⟨a,len,cap,m,n,D,Pl,rfl,_,hl,hm,hmm,_,hx⟩
 ·exact ⟨[],⟨_,rfl,HeldE.nil _ _ _⟩,by simp⟩
 ·simp at hmm
  rw [hce] at hx;have hsp:0<len->a.spot=none:=by
   intro hl0;obtain ⟨cs',h1,_⟩:=hx 0 (by omega);obtain ⟨_,hlen,hcell⟩:=World.cells?_some h1;have hk:=hcell 0 h0;rw [List.getElem?_eq_getElem (by omega)] at hk;have:=World.cell?_spot hk
   simpa [Addr.add] using this
  have each:∀ i,i<len->∃ y:α,ok y/\∃ b off,a=⟨b,off,none⟩/\b<W.heap.size/\∃ C,(∀ j,j<E.size->W.cell? ⟨b,off+i * E.size+j,none⟩=C[j]?)/\E.rep (fun b=>b<W.heap.size) W C y:=by
   intro i hi;obtain ⟨cs',h1,h2⟩:=hx i (by omega);obtain ⟨_,hlen,hcell⟩:=World.cells?_some h1;obtain ⟨y,hr,hy⟩:=hop enc W base _ cs' _ h2;have hk:=hcell 0 h0;have hv:∃ v0,cs'[0]? = some v0:=⟨cs'[0],List.getElem?_eq_getElem (by omega)⟩;obtain ⟨v0,hv0⟩:=hv;rw [hv0] at hk;have hs:a.spot=none:=hsp (by omega);obtain ⟨b,off,sp⟩:=a;simp only at hs;subst hs;rw [Addr.add_lit,Addr.add_lit] at hk;refine ⟨y,hy,b,off,rfl,World.block_lt_of_cell? W ⟨b,off+i * E.size+0,none⟩ hk,cs',fun j hj=>?_,hr⟩;have:=hcell j hj;rw [Addr.add_lit,Addr.add_lit] at this;exact this
  have hg:∀ i (hi:i<len),(List.ofFn (n:=len) fun i=>Classical.choose (each i.val i.isLt)).getD i E.zero=Classical.choose (each i hi):=fun i hi=>by simp [List.getD,hi]
  refine ⟨List.ofFn (n:=len) fun i=>Classical.choose (each i.val i.isLt),⟨_,rfl,some a,cap,by simp,by simp;omega,hm,(fun h=>by cases h),fun i hi=>?_⟩,?_⟩
  ·have hi':i<len:=by simpa using hi
   obtain ⟨_,b,off,rfl,h1,C,h2,h3⟩:=Classical.choose_spec (each i hi');refine ⟨b,off,rfl,h1,h1,C,h2,?_⟩;rw [hg i hi'];exact h3
  ·intro y hy;obtain ⟨i,rfl⟩:=List.mem_ofFn.1 hy;exact (Classical.choose_spec (each i.val i.isLt)).1
theorem f6(hu:P.underlying t=some (.slice e))(hc:P.cellsOf t=1)(h0:0<E.size)(he:fC P E ok e){H:Type}{enc:TypeId × Value->H}{W:World}{base:Nat}{v:Value}{d:DataW H}{p:List MemPlace}(hv:Value.okWide P W .any base t v)(h:DataW.Trod enc P W 0 (fun _=>true) true t v d p) :
  ∃ L,HeldE E (fun b=>b<W.heap.size) W v L/\∀ x ∈ L,ok x:=by
 obtain ⟨a0,len,cap,rfl⟩:=okWide_slice hu hv;obtain ⟨fuel,hf⟩:=h;obtain ⟨y,⟨v',hv',hr⟩,hk⟩:=(eY hu hc h0 he).2 enc W 0 _ _ _ hf
 simp [Value.cells] at hv'
 subst hv';exact ⟨y,hr,hk⟩
end
end
def clI(n:Int):Int:=if n<0\/13<n then 0 else n
theorem gN(n:Int):0<=clI n/\clI n<=13:=by unfold clI;omega
theorem aD(n:Int)(w:World):Calls Try.prog 46 #[.int .i64 n] w fun e w'=>e=.returned (.int .i64 (clI n))/\w=w':=by
 have hv:(n<0/\clI n=0)\/(0<=n/\n<=13/\clI n=n)\/(13<n/\clI n=0):=by unfold clI;omega
 rcases hv with ⟨h2,hs⟩ | ⟨h2,h3,hs⟩ | ⟨h2,hs⟩
 all_goals
  rw [hs];clear hs
  go_enter Try.func46,Try.ntmps46
  go_wp2;go_ret;exact ⟨ae,rfl⟩
def brB(n:Int):Bool:=decide (1<=n) && decide (n<=3)
theorem fV(n:Int):(n=1/\brB n=true)\/(n=2/\brB n=true)\/(n=3/\brB n=true)\/(n≠1/\n≠2/\n≠3/\brB n=false):=by unfold brB;simp;omega
theorem aY(n:Int)(w:World):Calls Try.prog 47 #[.int .i64 n] w fun e w'=>e=.returned (.bool (brB n))/\w=w':=by
 rcases fV n with ⟨rfl,hs⟩ | ⟨rfl,hs⟩ | ⟨rfl,hs⟩ | ⟨h1,h2,h3,hs⟩
 all_goals
  rw [hs];clear hs
  go_enter Try.func47,Try.ntmps47
  go_wp2;go_ret;exact ⟨ae,rfl⟩
def cm(a b:Int):Bool :=
 if a=9 then decide (b=9\/b=10\/b=12\/b=13)
 else if a=12\/a=10 then decide (b=10\/b=11)
 else if a=13\/a=11 then decide (b=11) else false
theorem fq(a b:Int):(a=9/\b=9/\cm a b=true)\/(a=9/\b=10/\cm a b=true)\/(a=9/\b=12/\cm a b=true)\/(a=9/\b=13/\cm a b=true)\/(a=9/\b≠9/\b≠10/\b≠12/\b≠13/\cm a b=false)
  \/ ((a=12\/a=10)/\b=10/\cm a b=true)\/((a=12\/a=10)/\b=11/\cm a b=true)\/((a=12\/a=10)/\b≠10/\b≠11/\cm a b=false)
  \/ ((a=13\/a=11)/\b=11/\cm a b=true)\/((a=13\/a=11)/\b≠11/\cm a b=false)
  \/ (a≠9/\a≠10/\a≠11/\a≠12/\a≠13/\cm a b=false):=by
 unfold cm
 by_cases h9:a=9
 ·subst h9;simp;omega
 ·by_cases h12:a=12\/a=10
  ·simp [h9,h12];omega
  ·by_cases h13:a=13\/a=11
   ·simp [h9,h12,h13];omega
   ·simp [h9,h12,h13];omega
theorem fB(a b:Int)(w:World):Calls Try.prog 48 #[.int .i64 a,.int .i64 b] w fun e w'=>e=.returned (.bool (cm a b))/\w=w':=by
 rcases fq a b with ⟨rfl,rfl,hs⟩ | ⟨rfl,rfl,hs⟩ | ⟨rfl,rfl,hs⟩ | ⟨rfl,rfl,hs⟩ | ⟨rfl,h1,h2,h3,h4,hs⟩ | ⟨rfl | rfl,rfl,hs⟩ | ⟨rfl | rfl,rfl,hs⟩ | ⟨rfl | rfl,h1,h2,hs⟩ | ⟨rfl | rfl,rfl,hs⟩ | ⟨rfl | rfl,h1,hs⟩ | ⟨h1,h2,h3,h4,h5,hs⟩
 all_goals
  rw [hs];clear hs
  go_enter Try.func48,Try.ntmps48
  go_wp2;go_ret;exact ⟨ae,rfl⟩
def bq(a b:Int):Int :=
 if a=1/\b=2 then 1 else if brB a=true\/brB b=true then 0 else if cm a b=true then 1
 else if b=4\/b=5\/b=8\/a=7 then 1 else if (b=0/\(a=5\/a=4))\/(a=6/\b=6) then 2 else 0
def bN(a b:Int):Int:=bq (clI a) (clI b)
theorem dl(a b:Int):(a=1/\b=2/\bq a b=1)\/(¬ (a=1/\b=2)/\brB a=true/\bq a b=0)\/(a≠1/\brB a=false/\brB b=true/\bq a b=0)
  \/ (a≠1/\brB a=false/\brB b=false/\cm a b=true/\bq a b=1)\/(a≠1/\brB a=false/\brB b=false/\cm a b=false/\bq a b=(if b=4\/b=5\/b=8\/a=7 then 1 else if (b=0/\(a=5\/a=4))\/(a=6/\b=6) then 2 else 0)):=by
 unfold bq
 by_cases h:a=1/\b=2
 ·simp [h]
 ·have h1:brB a=false->a≠1:=by intro hb he;subst he;simp [brB] at hb
  rw [if_neg h]
  cases ha:brB a with
  |true=>simp [h]
  |false =>
   have h1:=h1 ha
   cases hb:brB b with
   |true=>simp [h1]
   |false =>
    cases hs:cm a b with
    | true=>simp [h1]
    | false=>simp [h1]
section
namespace Reg
@[go_sem] def upon(P:Program)(Post:Value->World->Prop):Result Next->Prop
 | .ok (.value u) w'=>Post u w'
 | .ok .skip w'=>Post undef w'
 | .ok (.enter f args) w'=>Calls P f args w' (fun e w''=>∃ v,e=.returned v/\Post v w'')
 | _=>False
structure Plan where
 F:(Nat->Value)->Act
 E:Nat->Value->World->Prop
 C:Array Bool->World->Prop
 Ext:World->World->Prop
 stable:∀ j x w w',Ext w w'->E j x w->E j x w'
def upd(xs:Nat->Value)(i:Nat)(v:Value):Nat->Value:=fun j=>if j=i then v else xs j
def Closed(l:List Oper)(L:Array Bool):Prop:=∀ j o,l[j]? = some o->L.getD j false=true->∀ e ∈ o.after,Region.binds .any e=true->L.getD e.on false=true
theorem Closed.next{l:List Oper}{L:Array Bool}{i:Nat}(h:Closed l L)(hr:i ∈ Region.ready .any l.toArray L):Closed l (L.setIfInBounds i true):=by
 intro j o ho hl e he hb
 by_cases hij:i=j
 ·subst hij;obtain ⟨_,o',iH,hall⟩:=mem_ready.1 hr;obtain rfl:o=o':=Option.some.inj (ho.symm.trans (by simpa using iH));exact getD_set_true (hall e he hb)
 ·rw [getD_set_ne false hij] at hl;exact getD_set_true (h j o ho hl e he hb)
theorem Closed.start(l:List Oper)(n:Nat):Closed l (Array.replicate n false):=fun j o _ hl=>by rw [getD_replicate_false] at hl;cases hl
def reach(ops:Array Oper):Nat->Nat->Nat->Bool
 |0,_,_=>false
 |f+1,i,j=>Region.waitsFor .any ops i j || match ops[i]? with
  | some o=>o.after.any fun e=>Region.binds .any e && reach ops f e.on j
  | none=>false
theorem Closed.reach{l:List Oper}{L:Array Bool}(h:Closed l L):∀ (f i j:Nat),L.getD i false=true->reach l.toArray f i j=true->L.getD j false=true
 |0,_,_,_,hr=>by simp [Reg.reach] at hr
 |f+1,i,j,hi,hr=>by
  unfold Reg.reach at hr;rw [Bool.or_eq_true] at hr
  rcases hr with hr | hr
  ·obtain ⟨o,ho,e,he,hb,j8⟩:=Region.waitsFor_spec hr;rw [<-j8];exact h i o (by simpa using ho) hi e he hb
  ·cases ho:l.toArray[i]? with
   |none=>rw [ho] at hr;cases hr
   |some o =>
    rw [ho] at hr;obtain ⟨e,he,hb⟩:=Array.any_eq_true'.1 hr;rw [Bool.and_eq_true] at hb;exact Closed.reach h f e.on j (h i o (by simpa using ho) hi e he hb.1) hb.2
structure Here (p:Plan) (l:List Oper) (xs0:Nat->Value) (i:Nat) (L:Array Bool) (w:World) (xs:Nat->Value):Prop where
 size:L.size=l.length
 closed:Closed l L
 ready:i ∈ Region.ready .any l.toArray L
 cls:p.C L w
 vals:∀ j,j<l.length->L.getD j false=true->p.E j (xs j) w
 olds:∀ j,L.getD j false=false->xs j=xs0 j
theorem Here.dep{p:Plan}{l:List Oper}{xs0:Nat->Value}{i:Nat}{L:Array Bool}{w:World}{xs:Nat->Value}(h:Here p l xs0 i L w xs)(j:Nat)(hj:reach l.toArray 6 i j=true):L.getD j false=true:=by
 obtain ⟨_,o,ho,hall⟩:=mem_ready.1 h.ready;unfold reach at hj;rw [Bool.or_eq_true] at hj
 rcases hj with hj | hj
 ·obtain ⟨o',iH,e,he,hb,j8⟩:=Region.waitsFor_spec hj;obtain rfl:o=o':=Option.some.inj (ho.symm.trans iH);rw [<-j8];exact hall e he hb
 ·rw [ho] at hj;obtain ⟨e,he,hb⟩:=Array.any_eq_true'.1 hj;rw [Bool.and_eq_true] at hb;exact h.closed.reach 5 e.on j (hall e he hb.1) hb.2
theorem Here.val{p:Plan}{l:List Oper}{xs0:Nat->Value}{i:Nat}{L:Array Bool}{w:World}{xs:Nat->Value}(h:Here p l xs0 i L w xs)(j:Nat)(hj:reach l.toArray 6 i j=true)(hl:decide (j<l.length)=true):p.E j (xs j) w :=
 h.vals j (of_decide_eq_true hl) (h.dep j hj)
theorem Here.un{p:Plan}{l:List Oper}{xs0:Nat->Value}{i:Nat}{L:Array Bool}{w:World}{xs:Nat->Value}(h:Here p l xs0 i L w xs):Mix.one L i=0:=Mix.one_ready h.ready
theorem Here.v{p:Plan}{l:List Oper}{xs0:Nat->Value}{i:Nat}{L:Array Bool}{w:World}{xs:Nat->Value}(h:Here p l xs0 i L w xs)(j:Nat)(hj:reach l.toArray 6 i j=true:=by kernel_rfl)(hl:decide (j<l.length)=true:=by kernel_rfl):p.E j (xs j) w:=h.val j hj hl
theorem Here.notYet{p:Plan}{l:List Oper}{xs0:Nat->Value}{i:Nat}{L:Array Bool}{w:World}{xs:Nat->Value}(h:Here p l xs0 i L w xs)(j:Nat)(hj:reach l.toArray 6 j i=true):L.getD j false=false:=by
 cases hl:L.getD j false with
 |false=>rfl
 |true =>
  have h1:=h.closed.reach 6 j i hl hj;have h2:=(mem_ready.1 h.ready).1;obtain ⟨o',iH,_⟩:=(mem_ready.1 h.ready).2;have hlt:i<l.length:=by simpa using (Array.getElem?_eq_some_iff.1 iH).1
  rw [bI (by rw [h.size];exact hlt),h2] at h1
  cases h1
theorem Here.old{p:Plan}{l:List Oper}{xs0:Nat->Value}{i:Nat}{L:Array Bool}{w:World}{xs:Nat->Value}(h:Here p l xs0 i L w xs)(j:Nat)(hj:reach l.toArray 6 j i=true):xs j=xs0 j:=h.olds j (h.notYet j hj)
def Step(P:Program)(p:Plan)(l:List Oper)(xs0:Nat->Value)(i:Nat)(o:Oper):Prop :=
 ∀ L w xs,Here p l xs0 i L w xs ->
  (Region.wanted o (yielded l.toArray (p.F xs).tmps)=true/\upon P (fun v w'=>p.C (L.setIfInBounds i true) w'/\p.E i v w'/\p.Ext w w') ((execOp (p.F xs).eval o).run P w)) \/
  (Region.wanted o (yielded l.toArray (p.F xs).tmps)=false/\p.C (L.setIfInBounds i true) w/\p.E i undef w)
def Steps(P:Program)(p:Plan)(l:List Oper)(xs0:Nat->Value):List Oper->Nat->Prop
 | [],_=>True
 | o :: rest,i=>Step P p l xs0 i o/\Steps P p l xs0 rest (i+1)
def Puts(p:Plan):List Oper->Nat->Prop
 | [],_=>True
 | o :: rest,i=>(∀ xs v,(p.F xs).put o.dst v=p.F (upd xs i v))/\Puts p rest (i+1)
theorem puts_at{p:Plan}:∀ (m:List Oper) (k:Nat),Puts p m k->∀ j o,m[j]? = some o->∀ xs v,(p.F xs).put o.dst v=p.F (upd xs (k+j) v)
 |[],_,_,j,o,h=>by simp at h
 |q :: m,k,hs,j,o,h=>by
  cases j with
  |zero=>simp at h;subst h;exact hs.1
  |succ j =>
   have:=puts_at m (k+1) hs.2 j o (by simpa using h)
   rwa [show k+1+j=k+(j+1) by omega] at this
theorem steps_at{P:Program}{p:Plan}{l:List Oper}{xs0:Nat->Value}:∀ (m:List Oper) (k:Nat),Steps P p l xs0 m k->∀ j o,m[j]? = some o->Step P p l xs0 (k+j) o
 |[],_,_,j,o,h=>by simp at h
 |q :: m,k,hs,j,o,h=>by
  cases j with
  |zero=>simp at h;subst h;exact hs.1
  |succ j =>
   have:=steps_at m (k+1) hs.2 j o (by simpa using h)
   rwa [show k+1+j=k+(j+1) by omega] at this
section
variable {P : Program} {l : List Oper} {p : Plan} {xs0 : Nat → Value}
def Inv(p:Plan)(l:List Oper)(xs0:Nat->Value)(L:Array Bool)(a:Act)(w:World):Prop:=∃ xs,a=p.F xs/\L.size=l.length/\Closed l L/\p.C L w/\(∀ j,j<l.length->L.getD j false=true->p.E j (xs j) w)/\∀ j,L.getD j false=false->xs j=xs0 j
theorem Inv.next{L:Array Bool}{w w':World}{xs:Nat->Value}{i:Nat}{o:Oper}{v:Value}(hput:∀ i o,l[i]? = some o->∀ xs v,(p.F xs).put o.dst v=p.F (upd xs i v))(ho:l[i]? = some o)(hs:L.size=l.length)(hc:Closed l (L.setIfInBounds i true))
  (hv:∀ j,j<l.length->L.getD j false=true->p.E j (xs j) w) (hold:∀ j,L.getD j false=false->xs j=xs0 j) (hC:p.C (L.setIfInBounds i true) w') (hE:p.E i v w') (hx:∀ j,p.E j (xs j) w->p.E j (xs j) w'):Inv p l xs0 (L.setIfInBounds i true) ((p.F xs).put o.dst v) w':=by
 refine ⟨upd xs i v,hput i o ho xs v,by simpa using hs,hc,hC,fun j hj hl=>?_,fun j hl=>?_⟩
 ·unfold upd
  by_cases h:j=i
  ·subst h;rw [if_pos rfl];exact hE
  ·rw [if_neg h];rw [getD_set_ne false (Ne.symm h)] at hl;exact hx j (hv j hj hl)
 ·unfold upd
  by_cases h:j=i
  ·subst h;have hlt:j<L.size:=by rw [hs];exact (List.getElem?_eq_some_iff.1 ho).1
   rw [Array.getD_eq_getD_getElem?,Array.getElem?_setIfInBounds_self_of_lt hlt] at hl
   cases hl
  ·rw [if_neg h];rw [getD_set_ne false (Ne.symm h)] at hl;exact hold j hl
theorem wpOp_of{L:Array Bool}{a:Act}{w:World}{i:Nat}{K':Act->World->Prop}{Q':Exit->Act->World->Prop}(hput:∀ i o,l[i]? = some o->∀ xs v,(p.F xs).put o.dst v=p.F (upd xs i v))(hst:Steps P p l xs0 l 0)(hI:Inv p l xs0 L a w)(hr:i ∈ Region.ready .any l.toArray L)
  (h:∀ a' w',Inv p l xs0 (L.setIfInBounds i true) a' w'->K' a' w'):wpOp P l.toArray Q' i K' a w:=by
 obtain ⟨xs,rfl,hs,iI,hC,hv,hold⟩:=hI;have i6:=iI.next hr;obtain ⟨_,o,ho,_⟩:=mem_ready.1 hr;have iH:l[i]? = some o:=by simpa using ho
 have hstep:=steps_at l 0 hst i o iH;rw [Nat.zero_add] at hstep;unfold wpOp;simp only [ho]
 rcases hstep L w xs ⟨hs,iI,hr,hC,hv,hold⟩ with ⟨hw,hu⟩ | ⟨hw,jp,hE⟩
 ·rw [if_pos hw];refine .inl ?_;unfold Oper.wp;generalize (execOp (p.F xs).eval o).run P w=r at *
  cases r with
  |halt x w'=>exact hu.elim
  |ok n w' =>
   cases n <;> simp only [upon] at hu <;> simp only [Oper.upon]
   case value u =>
    obtain ⟨h1,h2,h3⟩:=hu;exact h _ _ (Inv.next hput iH hs i6 hv hold h1 h2 fun j=>p.stable j _ _ _ h3)
   case skip =>
    obtain ⟨h1,h2,h3⟩:=hu;exact h _ _ (Inv.next hput iH hs i6 hv hold h1 h2 fun j=>p.stable j _ _ _ h3)
   case enter f args =>
    exact hu.mono fun e w'' ⟨v,he,h1,h2,h3⟩=>by
     subst he;exact h _ _ (Inv.next hput iH hs i6 hv hold h1 h2 fun j=>p.stable j _ _ _ h3)
 ·rw [if_neg (by rw [hw];exact Bool.false_ne_true)];exact h _ _ (Inv.next hput iH hs i6 hv hold jp hE fun j h=>h)
theorem any_of{Q':Exit->Act->World->Prop}(iG:bP (l++[default]) l.length=true)(hput:∀ i o,l[i]? = some o->∀ xs v,(p.F xs).put o.dst v=p.F (upd xs i v))(hst:Steps P p l xs0 l 0)(hQ:∀ a w,Inv p l xs0 (Array.replicate l.length true) a w->Q' .normal a w) :
  ∀ (f:Nat) (L:Array Bool) (a:Act) (w:World),L.size=l.length->Inv p l xs0 L a w->aN l.length L=f->wpAny P .any l.toArray Q' f L a w:=by
 have hend:∀ (L:Array Bool) a w,L.size=l.length->Region.ready .any l.toArray L=[]->Inv p l xs0 L a w->Q' .normal a w:=by
  intro L a w hs hr hI;rw [Mix.all_listed iG hs hr] at hI;exact hQ a w hI
 intro f
 induction f with
 |zero =>
  intro L a w hs hI hu;have hr:Region.ready .any l.toArray L=[]:=by
   cases hc:Region.ready .any l.toArray L with
   |nil=>rfl
   |cons i t =>
    have hi:i ∈ Region.ready .any l.toArray L:=by rw [hc];simp
    obtain ⟨h0,o,ho,_⟩:=mem_ready.1 hi;have hlt:i<l.length:=by simpa using (Array.getElem?_eq_some_iff.1 ho).1
    have:=bf hu i hlt;rw [this] at h0
    cases h0
  exact ⟨hr,hend L a w hs hr hI⟩
 |succ f ih =>
  intro L a w hs hI hu;refine ⟨fun hr=>hend L a w hs hr hI,fun i hi=>wpOp_of hput hst hI hi fun a' w' hI'=>ih _ a' w' (by simpa using hs) hI' ?_⟩;obtain ⟨h0,o,ho,_⟩:=mem_ready.1 hi;have hlt:i<l.length:=by simpa using (Array.getElem?_eq_some_iff.1 ho).1
  have:=bo hs hlt h0;omega
theorem a9(n:Nat):aN n (Array.replicate n false)=n:=by
 unfold aN;rw [List.filter_eq_self.2 (fun i hi=>by
  have:=List.mem_range.1 hi;rw [getD_in (by simpa using this) (getD_replicate_false _ _)];rfl),List.length_range]
theorem region{id:Nat}{Q:Exit->Act->World->Prop}{a:Act}{w:World}(p:Plan)(xs0:Nat->Value)(hm:P.follows .mixedOrders=true)(iG:bP (l++[default]) l.length=true)(h0:a=p.F xs0)(hC:p.C (Array.replicate l.length false) { w with drawn:=w.drawn+1 })
  (iS:Puts p l 0) (hst:Steps P p l xs0 l 0)
  (hend:∀ xs w',p.C (Array.replicate l.length true) w'->(∀ j,j<l.length->p.E j (xs j) w')->Q .normal (p.F xs) w'):(Code.region id l.toArray true).wp P Q a w:=by
 refine wp_region_any hm ?_;have hput:∀ i o,l[i]? = some o->∀ xs v,(p.F xs).put o.dst v=p.F (upd xs i v):=fun i o ho=>by
  have:=puts_at l 0 iS i o ho
  rwa [Nat.zero_add] at this
 have:=any_of (Q':=Q) iG hput hst (fun a w ⟨xs,e,_,_,hC,hv,_⟩=>by
  subst e;refine hend xs w hC fun j hj=>hv j hj ?_
  rw [Array.getD_eq_getD_getElem?,Array.getElem?_replicate,if_pos hj]
  rfl) l.length (Array.replicate l.length false) a { w with drawn:=w.drawn+1 } (by simp) ⟨xs0,h0,by simp,Closed.start _ _,hC,fun j hj hl=>(by rw [getD_replicate_false] at hl;cases hl),fun j _=>rfl⟩ (a9 _)
 simpa using this
def frame(xs:Nat->Value):List (Option Tmp)->Nat->Act->Act
 | [],_,a=>a
 | d :: ds,i,a=>frame xs ds (i+1) (a.put d (xs i))
theorem put_none(a:Act)(v:Value):a.put none v=a:=rfl
def dsts(l:List Oper):List (Option Tmp):=l.map (·.dst)
def bs:List (Option Tmp)->Bool
 | []=>true
 | none :: ds=>bs ds
 | some d :: ds=>!ds.contains (some d) && bs ds
theorem ef(xs:Nat->Value)(d:Option Tmp)(v:Value):∀ (ds:List (Option Tmp)) (i:Nat) (a:Act),(∀ c,d=some c->some c ∉ ds)->frame xs ds i (a.put d v)=(frame xs ds i a).put d v
 |[],_,_,_=>rfl
 |e :: ds,i,a,h=>by
  unfold frame;rw [Act.put_comm a v (xs i) (fun c hc=>fun he=>h c hc (by simp [he])),ef xs d v ds (i+1) _ (fun c hc hm=>h c hc (by simp [hm]))]
theorem cB(xs:Nat->Value)(j:Nat)(v:Value):∀ (ds:List (Option Tmp)) (i:Nat) (a:Act),j<i->frame (upd xs j v) ds i a=frame xs ds i a
 |[],_,_,_=>rfl
 |e :: ds,i,a,h=>by
  unfold frame;rw [show upd xs j v i=xs i from if_neg (by omega)];exact cB xs j v ds (i+1) _ (by omega)
theorem fW(a:Act)(d:Option Tmp)(u v:Value):(a.put d u).put d v=a.put d v:=by
 cases d with
 | none=>rfl
 | some d=>simp [Act.put]
theorem cn(xs:Nat->Value)(v:Value):∀ (ds:List (Option Tmp)) (i:Nat) (a:Act),bs ds=true->∀ j d,ds[j]? = some d->(frame xs ds i a).put d v=frame (upd xs (i+j) v) ds i a
 |[],_,_,_,j,d,h=>by simp at h
 |e :: ds,i,a,ha,j,d,h=>by
  have jq:bs ds=true:=by
   cases e with
   | none=>exact ha
   | some e=>simp only [bs,Bool.and_eq_true] at ha;exact ha.2
  cases j with
  |zero =>
   simp at h
   subst h;unfold frame;simp only [Nat.add_zero];rw [cB xs i v ds (i+1) _ (by omega),show upd xs i v i=v from if_pos rfl];rw [<-ef xs e v ds (i+1) _ (fun c hc hm=>by subst hc;simp only [bs,Bool.and_eq_true,Bool.not_eq_true',List.contains_eq_mem,decide_eq_false_iff_not] at ha;exact ha.1 hm),fW]
  |succ j =>
   unfold frame;rw [show upd xs (i+(j+1)) v i=xs i from if_neg (by omega),cn xs v ds (i+1) _ jq j d (by simpa using h),show i+1+j=i+(j+1) by omega]
theorem puts_of{p:Plan}:∀ (m:List Oper) (k:Nat),(∀ j d,(dsts m)[j]? = some d->∀ xs v,(p.F xs).put d v=p.F (upd xs (k+j) v))->Puts p m k
 | [],_,_=>trivial
 | o :: m,k,h=>⟨fun xs v=>h 0 o.dst (by simp [dsts]) xs v,puts_of m (k+1) fun j d hd xs v=>by
  have:=h (j+1) d (by simpa [dsts] using hd) xs v
  rwa [show k+(j+1)=k+1+j by omega] at this⟩
theorem bO{l:List Oper}(a:Act)(hap:bs (dsts l)=true):a=frame (fun i=>match (dsts l)[i]? with | some (some d)=>a.tmps.getD d undef | _=>undef) (dsts l) 0 a:=by
 symm
 suffices h:∀ (ds:List (Option Tmp)) (i:Nat) (b:Act) (ys:Nat->Value),(∀ j d,ds[j]? = some (some d)->ys (i+j)=b.tmps.getD d undef)->bs ds=true->frame ys ds i b=b from
  h (dsts l) 0 a _ (fun j d hd=>by simp only [Nat.zero_add,hd]) hap
 intro ds
 induction ds with
 |nil=>intro _ _ _ _ _;rfl
 |cons e ds ih =>
  intro i b ys hy ha;have jq:bs ds=true:=by
   cases e with
   |none=>exact ha
   |some e=>simp only [bs,Bool.and_eq_true] at ha;exact ha.2
  have hb:b.put e (ys i)=b:=by
   cases e with
   |none=>rfl
   |some d =>
    have h0:=hy 0 d rfl;rw [Nat.add_zero] at h0;rw [h0];have hs:b.tmps.setIfInBounds d (b.tmps.getD d undef)=b.tmps:=by
     apply Array.ext
     ·simp
     ·intro q q1 q2;rw [Array.getElem_setIfInBounds]
      split
      ·rename_i hq
       subst hq;rw [Array.getD_eq_getD_getElem?,Array.getElem?_eq_getElem q2]
       rfl
      ·rfl
    show (⟨b.tmps.setIfInBounds d (b.tmps.getD d undef),b.defers⟩ : Act)=b;rw [hs]
  unfold frame;rw [hb];exact ih (i+1) b ys (fun j d hd=>by
   have:=hy (j+1) d (by simpa using hd)
   rwa [show i+(j+1)=i+1+j by omega] at this) jq
theorem eV{l:List Oper}{k:Nat}(hk:k<l.length):(aq l k).setIfInBounds k true=aq l (k+1):=by
 apply Array.ext
 ·simp [aq]
 ·intro i h1 h2;rw [Array.getElem_setIfInBounds (by simpa using h1)]
  ·have h3:(aq l (k+1))[i]=decide (i<k+1):=by simp [aq]
   have h4:∀ h,(aq l k)[i]'h=decide (i<k):=fun h=>by simp [aq]
   rw [h3,h4]
   by_cases h:k=i
   ·subst h;simp
   ·rw [if_neg h]
    by_cases h5:i<k
    ·rw [decide_eq_true h5,decide_eq_true (by omega)]
    ·rw [decide_eq_false h5,decide_eq_false (by omega)]
theorem dt{l:List Oper}{k i:Nat}(hi:i<l.length)(d:Bool):(aq l k).getD i d=decide (i<k):=by
 rw [Array.getD_eq_getD_getElem?,Array.getElem?_eq_getElem (by simp [aq];exact hi)]
 simp [aq]
theorem eh(l:List Oper):aq l 0=Array.replicate l.length false:=by
 apply Array.ext
 ·simp [aq]
 ·intro i h1 h2;simp [aq]
theorem eW(l:List Oper):aq l l.length=Array.replicate l.length true:=by
 apply Array.ext
 ·simp [aq]
 ·intro i h1 h2;have:i<l.length:=by simpa [aq] using h1
  simp [aq,this]
theorem dN{l:List Oper}{k:Nat}(iG:bP (l++[default]) l.length=true)(hk:k<l.length):k ∈ Region.ready .any l.toArray (aq l k):=by
 refine mem_ready.2 ⟨by rw [dt hk];simp,l[k],by simp,fun e he hb=>?_⟩;have iH:(l++[default])[k]? = some l[k]:=by rw [List.getElem?_append_left hk];exact List.getElem?_eq_getElem hk
 have hlt:=(dC iG hk iH).1 e he hb;rw [dt (by omega)];exact decide_eq_true hlt
end
theorem e4(X:World->World->Prop)(P0 P1 P2 P3:Value->World->Prop)(s0:∀ x w w1,X w w1->P0 x w->P0 x w1:=by exact fun _ _ _ _ h=>h)(s1:∀ x w w1,X w w1->P1 x w->P1 x w1:=by exact fun _ _ _ _ h=>h)(s2:∀ x w w1,X w w1->P2 x w->P2 x w1:=by exact fun _ _ _ _ h=>h)(s3:∀ x w w1,X w w1->P3 x w->P3 x w1:=by exact fun _ _ _ _ h=>h):∃ E:Nat->Value->World->Prop,Hid (∀ j x w w1,X w w1->E j x w->E j x w1)/\Hid (∀ x w,E 0 x w=P0 x w)/\Hid (∀ x w,E 1 x w=P1 x w)/\Hid (∀ x w,E 2 x w=P2 x w)/\Hid (∀ x w,E 3 x w=P3 x w) :=
 ⟨fun j=>match j with | 0=>P0 | 1=>P1 | 2=>P2 | 3=>P3 | _=>fun _ _=>True,aa fun j=>match j with | 0=>s0 | 1=>s1 | 2=>s2 | 3=>s3 | _+4=>fun _ _ _ _ h=>h,aa fun _ _=>rfl,aa fun _ _=>rfl,aa fun _ _=>rfl,aa fun _ _=>rfl⟩
theorem e8(X:World->World->Prop)(P0 P1 P2 P3 P4 P5 P6 P7:Value->World->Prop)(s0:∀ x w w1,X w w1->P0 x w->P0 x w1:=by exact fun _ _ _ _ h=>h)(s1:∀ x w w1,X w w1->P1 x w->P1 x w1:=by exact fun _ _ _ _ h=>h)(s2:∀ x w w1,X w w1->P2 x w->P2 x w1:=by exact fun _ _ _ _ h=>h)(s3:∀ x w w1,X w w1->P3 x w->P3 x w1:=by exact fun _ _ _ _ h=>h)(s4:∀ x w w1,X w w1->P4 x w->P4 x w1:=by exact fun _ _ _ _ h=>h)(s5:∀ x w w1,X w w1->P5 x w->P5 x w1:=by exact fun _ _ _ _ h=>h)(s6:∀ x w w1,X w w1->P6 x w->P6 x w1:=by exact fun _ _ _ _ h=>h)(s7:∀ x w w1,X w w1->P7 x w->P7 x w1:=by exact fun _ _ _ _ h=>h):∃ E:Nat->Value->World->Prop,Hid (∀ j x w w1,X w w1->E j x w->E j x w1)/\Hid (∀ x w,E 0 x w=P0 x w)/\Hid (∀ x w,E 1 x w=P1 x w)/\Hid (∀ x w,E 2 x w=P2 x w)/\Hid (∀ x w,E 3 x w=P3 x w)/\Hid (∀ x w,E 4 x w=P4 x w)/\Hid (∀ x w,E 5 x w=P5 x w)/\Hid (∀ x w,E 6 x w=P6 x w)/\Hid (∀ x w,E 7 x w=P7 x w) :=
 ⟨fun j=>match j with | 0=>P0 | 1=>P1 | 2=>P2 | 3=>P3 | 4=>P4 | 5=>P5 | 6=>P6 | 7=>P7 | _=>fun _ _=>True,aa fun j=>match j with | 0=>s0 | 1=>s1 | 2=>s2 | 3=>s3 | 4=>s4 | 5=>s5 | 6=>s6 | 7=>s7 | _+8=>fun _ _ _ _ h=>h,aa fun _ _=>rfl,aa fun _ _=>rfl,aa fun _ _=>rfl,aa fun _ _=>rfl,aa fun _ _=>rfl,aa fun _ _=>rfl,aa fun _ _=>rfl,aa fun _ _=>rfl⟩
theorem hk{a b c:Prop}(x:a)(y:b)(z:c):Hid (a/\b/\c):=aa ⟨x,y,z⟩
theorem go{P:Program}{Post:Value->World->Prop}{r:Result Next}{a:Bool}{B:Prop}(h:a=true)(k:upon P Post r):(a=true/\upon P Post r)\/B:=.inl ⟨h,k⟩
end Reg
end
section
namespace Reg
def bz(l:List Oper):Bool:=l.all fun o=>match o.op with | .defer _=>false | _=>true
theorem noDefer_at{l:List Oper}(h:bz l=true){i:Nat}{o:Oper}(ho:l[i]? = some o):∀ c,o.op≠.defer c:=by
 intro c e;have:=List.all_eq_true.1 h o (List.mem_of_getElem? ho);rw [e] at this
 cases this
section
variable {P : Program} {l : List Oper} {p : Plan} {xs0 : Nat → Value} {F : Fence} {n : Nat}
theorem wpOpIn_of{L:Array Bool}{a:Act}{w:World}{i:Nat}{K':Act->World->Prop}{Q':Exit->Act->World->Prop}(hfn:∀ f,F.fn f)(hd:F.depth=none)(iI:∀ (f:FuncId) (args:Array Value) (w:World) (R:Ending->World->Prop),Calls P f args w R->CallsIn F (n - 1) P f args w R)(i8:bz l=true)(hput:∀ i o,l[i]? = some o->∀ xs v,(p.F xs).put o.dst v=p.F (upd xs i v))(hst:Steps P p l xs0 l 0)(hI:Inv p l xs0 L a w)(hr:i ∈ Region.ready .any l.toArray L)
  (h:∀ a' w',Inv p l xs0 (L.setIfInBounds i true) a' w'->K' a' w'):wpOpIn F n P l.toArray Q' i K' a w:=by
 obtain ⟨xs,rfl,hs,jm,hC,hv,hold⟩:=hI;have i6:=jm.next hr;obtain ⟨_,o,ho,_⟩:=mem_ready.1 hr;have iH:l[i]? = some o:=by simpa using ho
 have hstep:=steps_at l 0 hst i o iH;rw [Nat.zero_add] at hstep;unfold wpOpIn;simp only [ho]
 rcases hstep L w xs ⟨hs,jm,hr,hC,hv,hold⟩ with ⟨hw,hu⟩ | ⟨hw,jp,hE⟩
 ·rw [if_pos hw];unfold Oper.wpIn;refine ⟨fun f _=>hfn f,?_⟩;rw [Oper.semAt_plain F _ _ (noDefer_at i8 iH)];generalize (execOp (p.F xs).eval o).run P w=r at *
  cases r with
  |halt x w'=>exact hu.elim
  |ok nx w' =>
   cases nx <;> simp only [upon] at hu <;> simp only [Oper.uponIn]
   case value u =>
    obtain ⟨h1,h2,h3⟩:=hu;exact h _ _ (Inv.next hput iH hs i6 hv hold h1 h2 fun j=>p.stable j _ _ _ h3)
   case skip =>
    obtain ⟨h1,h2,h3⟩:=hu;exact h _ _ (Inv.next hput iH hs i6 hv hold h1 h2 fun j=>p.stable j _ _ _ h3)
   case enter f args =>
    refine ⟨fun hh=>(by rw [hd] at hh;cases hh),(iI f args w' _ hu).mono fun e w'' ⟨v,he,h1,h2,h3⟩=>?_⟩;subst he;exact h _ _ (Inv.next hput iH hs i6 hv hold h1 h2 fun j=>p.stable j _ _ _ h3)
 ·rw [if_neg (by rw [hw];exact Bool.false_ne_true)];exact ⟨fun f _=>hfn f,h _ _ (Inv.next hput iH hs i6 hv hold jp hE fun j h=>h)⟩
theorem anyIn_of{Q':Exit->Act->World->Prop}(hfn:∀ f,F.fn f)(hd:F.depth=none)(iI:∀ (f:FuncId) (args:Array Value) (w:World) (R:Ending->World->Prop),Calls P f args w R->CallsIn F (n - 1) P f args w R)(i8:bz l=true)(iG:bP (l++[default]) l.length=true)(hput:∀ i o,l[i]? = some o->∀ xs v,(p.F xs).put o.dst v=p.F (upd xs i v))(hst:Steps P p l xs0 l 0)(hQ:∀ a w,Inv p l xs0 (Array.replicate l.length true) a w->Q' .normal a w) :
  ∀ (f:Nat) (L:Array Bool) (a:Act) (w:World),L.size=l.length->Inv p l xs0 L a w->aN l.length L=f->wpAnyIn F n P .any l.toArray Q' f L a w:=by
 have hend:∀ (L:Array Bool) a w,L.size=l.length->Region.ready .any l.toArray L=[]->Inv p l xs0 L a w->Q' .normal a w:=by
  intro L a w hs hr hI;rw [Mix.all_listed iG hs hr] at hI;exact hQ a w hI
 intro f
 induction f with
 |zero =>
  intro L a w hs hI hu;have hr:Region.ready .any l.toArray L=[]:=by
   cases hc:Region.ready .any l.toArray L with
   |nil=>rfl
   |cons i t =>
    have hi:i ∈ Region.ready .any l.toArray L:=by rw [hc];simp
    obtain ⟨h0,o,ho,_⟩:=mem_ready.1 hi;have hlt:i<l.length:=by simpa using (Array.getElem?_eq_some_iff.1 ho).1
    have:=bf hu i hlt;rw [this] at h0
    cases h0
  exact ⟨hr,hend L a w hs hr hI⟩
 |succ f ih =>
  intro L a w hs hI hu;refine ⟨fun hr=>hend L a w hs hr hI,fun i hi=>wpOpIn_of hfn hd iI i8 hput hst hI hi fun a' w' hI'=>ih _ a' w' (by simpa using hs) hI' ?_⟩;obtain ⟨h0,o,ho,_⟩:=mem_ready.1 hi;have hlt:i<l.length:=by simpa using (Array.getElem?_eq_some_iff.1 ho).1
  have:=bo hs hlt h0;omega
theorem regionIn{id:Nat}{Q:Exit->Act->World->Prop}{a:Act}{w:World}(hfn:∀ f,F.fn f)(hd:F.depth=none)(iI:∀ (f:FuncId) (args:Array Value) (w:World) (R:Ending->World->Prop),Calls P f args w R->CallsIn F (n - 1) P f args w R)(i8:bz l=true)(p:Plan)(xs0:Nat->Value)(hm:P.follows .mixedOrders=true)(iG:bP (l++[default]) l.length=true)(h0:a=p.F xs0)(hC:p.C (Array.replicate l.length false) { w with drawn:=w.drawn+1 })
  (iS:Puts p l 0) (hst:Steps P p l xs0 l 0)
  (hend:∀ xs w',p.C (Array.replicate l.length true) w'->(∀ j,j<l.length->p.E j (xs j) w')->Q .normal (p.F xs) w'):(Code.region id l.toArray true).wpIn F n P Q a w:=by
 refine wpIn_region_any hm ?_;have hput:∀ i o,l[i]? = some o->∀ xs v,(p.F xs).put o.dst v=p.F (upd xs i v):=fun i o ho=>by
  have:=puts_at l 0 iS i o ho
  rwa [Nat.zero_add] at this
 have:=anyIn_of (Q':=Q) hfn hd iI i8 iG hput hst (fun a w ⟨xs,e,_,_,hC,hv,_⟩=>by
  subst e;refine hend xs w hC fun j hj=>hv j hj ?_
  rw [Array.getD_eq_getD_getElem?,Array.getElem?_replicate,if_pos hj]
  rfl) l.length (Array.replicate l.length false) a { w with drawn:=w.drawn+1 } (by simp) ⟨xs0,h0,by simp,Closed.start _ _,hC,fun j hj hl=>(by rw [getD_replicate_false] at hl;cases hl),fun j _=>rfl⟩ (a9 _)
 simpa using this
theorem regionFIn{id:Nat}{Q:Exit->Act->World->Prop}{a:Act}{w:World}(hfn:∀ f,F.fn f)(hd:F.depth=none)(iI:∀ (f:FuncId) (args:Array Value) (w:World) (R:Ending->World->Prop),Calls P f args w R->CallsIn F (n - 1) P f args w R)(i8:bz l=true)(E:Nat->Value->World->Prop)(C:Array Bool->World->Prop)(X:World->World->Prop)(st:∀ j x w w',X w w'->E j x w->E j x w')
  (hm:P.follows .mixedOrders=true) (iG:bP (l++[default]) l.length=true) (hap:bs (dsts l)=true) (hC:C (Array.replicate l.length false) { w with drawn:=w.drawn+1 })
  (H:∀ (F:(Nat->Value)->Act),(∀ xs,F xs=frame xs (dsts l) 0 a)->Steps P ⟨F,E,C,X,st⟩ l (fun i=>match (dsts l)[i]? with | some (some d)=>a.tmps.getD d undef | _=>undef) l 0 /\
   (∀ xs w',C (Array.replicate l.length true) w'->(∀ j,j<l.length->E j (xs j) w')->Q .normal (F xs) w')):(Code.region id l.toArray true).wpIn F n P Q a w:=by
 obtain ⟨h1,h2⟩:=H (fun xs=>frame xs (dsts l) 0 a) (fun _=>rfl);refine regionIn hfn hd iI i8 ⟨fun xs=>frame xs (dsts l) 0 a,E,C,X,st⟩ _ hm iG (bO a hap) hC (puts_of l 0 fun j d hd xs v=>?_) h1 h2;have:=cn xs v (dsts l) 0 a hap j d hd
 simpa using this
end
theorem calls_round{P:Program}{n l:Nat}(f:FuncId)(args:Array Value)(w:World)(R:Ending->World->Prop)(h:Calls P f args w R):CallsIn (Fence.wide.inRound l) n P f args w R:=CallsIn.inRound l (callsIn_wide.2 h)
end Reg
end
section
namespace RegX
open Reg (upon upd Closed reach frame dsts bs cn bO a9 eV dt eh eW dN)
structure Plan where
 F:(Nat->Value)->Act
 E:Nat->Value->World->Prop
 C:Array Bool->World->Prop
 Ext:Nat->World->World->Prop
structure Here (p:Plan) (l:List Oper) (xs0:Nat->Value) (i:Nat) (L:Array Bool) (w:World) (xs:Nat->Value):Prop where
 size:L.size=l.length
 closed:Closed l L
 ready:i ∈ Region.ready .any l.toArray L
 cls:p.C L w
 vals:∀ j,j<l.length->L.getD j false=true->p.E j (xs j) w
 olds:∀ j,L.getD j false=false->xs j=xs0 j
theorem Here.dep{p:Plan}{l:List Oper}{xs0:Nat->Value}{i:Nat}{L:Array Bool}{w:World}{xs:Nat->Value}(h:Here p l xs0 i L w xs)(j:Nat)(hj:reach l.toArray 6 i j=true):L.getD j false=true:=by
 obtain ⟨_,o,ho,hall⟩:=mem_ready.1 h.ready;unfold reach at hj;rw [Bool.or_eq_true] at hj
 rcases hj with hj | hj
 ·obtain ⟨o',iH,e,he,hb,j8⟩:=Region.waitsFor_spec hj;obtain rfl:o=o':=Option.some.inj (ho.symm.trans iH);rw [<-j8];exact hall e he hb
 ·rw [ho] at hj;obtain ⟨e,he,hb⟩:=Array.any_eq_true'.1 hj;rw [Bool.and_eq_true] at hb;exact h.closed.reach 5 e.on j (hall e he hb.1) hb.2
theorem Here.val{p:Plan}{l:List Oper}{xs0:Nat->Value}{i:Nat}{L:Array Bool}{w:World}{xs:Nat->Value}(h:Here p l xs0 i L w xs)(j:Nat)(hj:reach l.toArray 6 i j=true)(hl:decide (j<l.length)=true):p.E j (xs j) w :=
 h.vals j (of_decide_eq_true hl) (h.dep j hj)
theorem Here.un{p:Plan}{l:List Oper}{xs0:Nat->Value}{i:Nat}{L:Array Bool}{w:World}{xs:Nat->Value}(h:Here p l xs0 i L w xs):Mix.one L i=0:=Mix.one_ready h.ready
theorem Here.v{p:Plan}{l:List Oper}{xs0:Nat->Value}{i:Nat}{L:Array Bool}{w:World}{xs:Nat->Value}(h:Here p l xs0 i L w xs)(j:Nat)(hj:reach l.toArray 6 i j=true:=by kernel_rfl)(hl:decide (j<l.length)=true:=by kernel_rfl):p.E j (xs j) w:=h.val j hj hl
theorem Here.notYet{p:Plan}{l:List Oper}{xs0:Nat->Value}{i:Nat}{L:Array Bool}{w:World}{xs:Nat->Value}(h:Here p l xs0 i L w xs)(j:Nat)(hj:reach l.toArray 6 j i=true):L.getD j false=false:=by
 cases hl:L.getD j false with
 |false=>rfl
 |true =>
  have h1:=h.closed.reach 6 j i hl hj;have h2:=(mem_ready.1 h.ready).1;obtain ⟨o',iH,_⟩:=(mem_ready.1 h.ready).2;have hlt:i<l.length:=by simpa using (Array.getElem?_eq_some_iff.1 iH).1
  rw [bI (by rw [h.size];exact hlt),h2] at h1
  cases h1
theorem Here.old{p:Plan}{l:List Oper}{xs0:Nat->Value}{i:Nat}{L:Array Bool}{w:World}{xs:Nat->Value}(h:Here p l xs0 i L w xs)(j:Nat)(hj:reach l.toArray 6 j i=true):xs j=xs0 j:=h.olds j (h.notYet j hj)
def Step(P:Program)(p:Plan)(l:List Oper)(xs0:Nat->Value)(i:Nat)(o:Oper):Prop :=
 ∀ L w xs,Here p l xs0 i L w xs ->
  (Region.wanted o (yielded l.toArray (p.F xs).tmps)=true/\upon P (fun v w'=>p.C (L.setIfInBounds i true) w'/\p.E i v w'/\p.Ext i w w') ((execOp (p.F xs).eval o).run P w)) \/
  (Region.wanted o (yielded l.toArray (p.F xs).tmps)=false/\p.C (L.setIfInBounds i true) w/\p.E i undef w)
def Steps(P:Program)(p:Plan)(l:List Oper)(xs0:Nat->Value):List Oper->Nat->Prop
 | [],_=>True
 | o :: rest,i=>Step P p l xs0 i o/\Steps P p l xs0 rest (i+1)
def Puts(p:Plan):List Oper->Nat->Prop
 | [],_=>True
 | o :: rest,i=>(∀ xs v,(p.F xs).put o.dst v=p.F (upd xs i v))/\Puts p rest (i+1)
theorem puts_at{p:Plan}:∀ (m:List Oper) (k:Nat),Puts p m k->∀ j o,m[j]? = some o->∀ xs v,(p.F xs).put o.dst v=p.F (upd xs (k+j) v)
 |[],_,_,j,o,h=>by simp at h
 |q :: m,k,hs,j,o,h=>by
  cases j with
  |zero=>simp at h;subst h;exact hs.1
  |succ j =>
   have:=puts_at m (k+1) hs.2 j o (by simpa using h)
   rwa [show k+1+j=k+(j+1) by omega] at this
theorem steps_at{P:Program}{p:Plan}{l:List Oper}{xs0:Nat->Value}:∀ (m:List Oper) (k:Nat),Steps P p l xs0 m k->∀ j o,m[j]? = some o->Step P p l xs0 (k+j) o
 |[],_,_,j,o,h=>by simp at h
 |q :: m,k,hs,j,o,h=>by
  cases j with
  |zero=>simp at h;subst h;exact hs.1
  |succ j =>
   have:=steps_at m (k+1) hs.2 j o (by simpa using h)
   rwa [show k+1+j=k+(j+1) by omega] at this
section
variable {P : Program} {l : List Oper} {p : Plan} {xs0 : Nat → Value}
def Inv(p:Plan)(l:List Oper)(xs0:Nat->Value)(L:Array Bool)(a:Act)(w:World):Prop:=∃ xs,a=p.F xs/\L.size=l.length/\Closed l L/\p.C L w/\(∀ j,j<l.length->L.getD j false=true->p.E j (xs j) w)/\∀ j,L.getD j false=false->xs j=xs0 j
theorem Inv.next{L:Array Bool}{w w':World}{xs:Nat->Value}{i:Nat}{o:Oper}{v:Value}(hput:∀ i o,l[i]? = some o->∀ xs v,(p.F xs).put o.dst v=p.F (upd xs i v))(ho:l[i]? = some o)(hs:L.size=l.length)(hc:Closed l (L.setIfInBounds i true))
  (hv:∀ j,j<l.length->L.getD j false=true->p.E j (xs j) w) (hold:∀ j,L.getD j false=false->xs j=xs0 j) (hC:p.C (L.setIfInBounds i true) w') (hE:p.E i v w') (hx:∀ j,j≠i->L.getD j false=true->p.E j (xs j) w->p.E j (xs j) w'):Inv p l xs0 (L.setIfInBounds i true) ((p.F xs).put o.dst v) w':=by
 refine ⟨upd xs i v,hput i o ho xs v,by simpa using hs,hc,hC,fun j hj hl=>?_,fun j hl=>?_⟩
 ·unfold upd
  by_cases h:j=i
  ·subst h;rw [if_pos rfl];exact hE
  ·rw [if_neg h];rw [getD_set_ne false (Ne.symm h)] at hl;exact hx j h hl (hv j hj hl)
 ·unfold upd
  by_cases h:j=i
  ·subst h;have hlt:j<L.size:=by rw [hs];exact (List.getElem?_eq_some_iff.1 ho).1
   rw [Array.getD_eq_getD_getElem?,Array.getElem?_setIfInBounds_self_of_lt hlt] at hl
   cases hl
  ·rw [if_neg h];rw [getD_set_ne false (Ne.symm h)] at hl;exact hold j hl
theorem wpOp_of{L:Array Bool}{a:Act}{w:World}{i:Nat}{K':Act->World->Prop}{Q':Exit->Act->World->Prop}(hput:∀ i o,l[i]? = some o->∀ xs v,(p.F xs).put o.dst v=p.F (upd xs i v))(iJ:∀ i j x w w',j≠i->reach l.toArray 6 j i=false->p.Ext i w w'->p.E j x w->p.E j x w')(hst:Steps P p l xs0 l 0)(hI:Inv p l xs0 L a w)(hr:i ∈ Region.ready .any l.toArray L)
  (h:∀ a' w',Inv p l xs0 (L.setIfInBounds i true) a' w'->K' a' w'):wpOp P l.toArray Q' i K' a w:=by
 obtain ⟨xs,rfl,hs,iI,hC,hv,hold⟩:=hI;have i6:=iI.next hr;obtain ⟨_,o,ho,_⟩:=mem_ready.1 hr;have iH:l[i]? = some o:=by simpa using ho
 have iV:∀ {w':World},p.Ext i w w'->∀ j,j≠i->L.getD j false=true->p.E j (xs j) w->p.E j (xs j) w':=fun hx j i2 hl hE=>by
  cases hre:reach l.toArray 6 j i with
  |false=>exact iJ i j _ _ _ i2 hre hx hE
  |true =>
   have h1:=iI.reach 6 j i hl hre;have h2:=(mem_ready.1 hr).1;have hlt:i<l.length:=(List.getElem?_eq_some_iff.1 iH).1;rw [bI (by rw [hs];exact hlt),h2] at h1
   cases h1
 have hstep:=steps_at l 0 hst i o iH;rw [Nat.zero_add] at hstep;unfold wpOp;simp only [ho]
 rcases hstep L w xs ⟨hs,iI,hr,hC,hv,hold⟩ with ⟨hw,hu⟩ | ⟨hw,jp,hE⟩
 ·rw [if_pos hw];refine .inl ?_;unfold Oper.wp;generalize (execOp (p.F xs).eval o).run P w=r at *
  cases r with
  |halt x w'=>exact hu.elim
  |ok n w' =>
   cases n <;> simp only [upon] at hu <;> simp only [Oper.upon]
   case value u =>
    obtain ⟨h1,h2,h3⟩:=hu;exact h _ _ (Inv.next hput iH hs i6 hv hold h1 h2 (iV h3))
   case skip =>
    obtain ⟨h1,h2,h3⟩:=hu;exact h _ _ (Inv.next hput iH hs i6 hv hold h1 h2 (iV h3))
   case enter f args =>
    exact hu.mono fun e w'' ⟨v,he,h1,h2,h3⟩=>by
     subst he;exact h _ _ (Inv.next hput iH hs i6 hv hold h1 h2 (iV h3))
 ·rw [if_neg (by rw [hw];exact Bool.false_ne_true)];exact h _ _ (Inv.next hput iH hs i6 hv hold jp hE fun _ _ _ h=>h)
theorem any_of{Q':Exit->Act->World->Prop}(iG:bP (l++[default]) l.length=true)(hput:∀ i o,l[i]? = some o->∀ xs v,(p.F xs).put o.dst v=p.F (upd xs i v))(iJ:∀ i j x w w',j≠i->reach l.toArray 6 j i=false->p.Ext i w w'->p.E j x w->p.E j x w')(hst:Steps P p l xs0 l 0)(hQ:∀ a w,Inv p l xs0 (Array.replicate l.length true) a w->Q' .normal a w) :
  ∀ (f:Nat) (L:Array Bool) (a:Act) (w:World),L.size=l.length->Inv p l xs0 L a w->aN l.length L=f->wpAny P .any l.toArray Q' f L a w:=by
 have hend:∀ (L:Array Bool) a w,L.size=l.length->Region.ready .any l.toArray L=[]->Inv p l xs0 L a w->Q' .normal a w:=by
  intro L a w hs hr hI;rw [Mix.all_listed iG hs hr] at hI;exact hQ a w hI
 intro f
 induction f with
 |zero =>
  intro L a w hs hI hu;have hr:Region.ready .any l.toArray L=[]:=by
   cases hc:Region.ready .any l.toArray L with
   |nil=>rfl
   |cons i t =>
    have hi:i ∈ Region.ready .any l.toArray L:=by rw [hc];simp
    obtain ⟨h0,o,ho,_⟩:=mem_ready.1 hi;have hlt:i<l.length:=by simpa using (Array.getElem?_eq_some_iff.1 ho).1
    have:=bf hu i hlt;rw [this] at h0
    cases h0
  exact ⟨hr,hend L a w hs hr hI⟩
 |succ f ih =>
  intro L a w hs hI hu;refine ⟨fun hr=>hend L a w hs hr hI,fun i hi=>wpOp_of hput iJ hst hI hi fun a' w' hI'=>ih _ a' w' (by simpa using hs) hI' ?_⟩;obtain ⟨h0,o,ho,_⟩:=mem_ready.1 hi;have hlt:i<l.length:=by simpa using (Array.getElem?_eq_some_iff.1 ho).1
  have:=bo hs hlt h0;omega
theorem region{id:Nat}{Q:Exit->Act->World->Prop}{a:Act}{w:World}(p:Plan)(xs0:Nat->Value)(hm:P.follows .mixedOrders=true)(iG:bP (l++[default]) l.length=true)(h0:a=p.F xs0)(hC:p.C (Array.replicate l.length false) { w with drawn:=w.drawn+1 })
  (iS:Puts p l 0) (iJ:∀ i j x w w',j≠i->reach l.toArray 6 j i=false->p.Ext i w w'->p.E j x w->p.E j x w') (hst:Steps P p l xs0 l 0)
  (hend:∀ xs w',p.C (Array.replicate l.length true) w'->(∀ j,j<l.length->p.E j (xs j) w')->Q .normal (p.F xs) w'):(Code.region id l.toArray true).wp P Q a w:=by
 refine wp_region_any hm ?_;have hput:∀ i o,l[i]? = some o->∀ xs v,(p.F xs).put o.dst v=p.F (upd xs i v):=fun i o ho=>by
  have:=puts_at l 0 iS i o ho
  rwa [Nat.zero_add] at this
 have:=any_of (Q':=Q) iG hput iJ hst (fun a w ⟨xs,e,_,_,hC,hv,_⟩=>by
  subst e;refine hend xs w hC fun j hj=>hv j hj ?_
  rw [Array.getD_eq_getD_getElem?,Array.getElem?_replicate,if_pos hj]
  rfl) l.length (Array.replicate l.length false) a { w with drawn:=w.drawn+1 } (by simp) ⟨xs0,h0,by simp,Closed.start _ _,hC,fun j hj hl=>(by rw [getD_replicate_false] at hl;cases hl),fun j _=>rfl⟩ (a9 _)
 simpa using this
theorem puts_of{p:Plan}:∀ (m:List Oper) (k:Nat),(∀ j d,(dsts m)[j]? = some d->∀ xs v,(p.F xs).put d v=p.F (upd xs (k+j) v))->Puts p m k
 | [],_,_=>trivial
 | o :: m,k,h=>⟨fun xs v=>h 0 o.dst (by simp [dsts]) xs v,puts_of m (k+1) fun j d hd xs v=>by
  have:=h (j+1) d (by simpa [dsts] using hd) xs v
  rwa [show k+(j+1)=k+1+j by omega] at this⟩
end
end RegX
end
section
namespace RegX
open Reg (upon upd Closed reach frame dsts bs cn bO a9 eV dt eh eW dN bz)
section
variable {P : Program} {l : List Oper} {p : Plan} {xs0 : Nat → Value} {F : Fence} {n : Nat}
theorem wpOpIn_of{L:Array Bool}{a:Act}{w:World}{i:Nat}{K':Act->World->Prop}{Q':Exit->Act->World->Prop}(hfn:∀ f,F.fn f)(hd:F.depth=none)(iI:∀ (f:FuncId) (args:Array Value) (w:World) (R:Ending->World->Prop),Calls P f args w R->CallsIn F (n - 1) P f args w R)(i8:bz l=true)(hput:∀ i o,l[i]? = some o->∀ xs v,(p.F xs).put o.dst v=p.F (upd xs i v))(iJ:∀ i j x w w',j≠i->reach l.toArray 6 j i=false->p.Ext i w w'->p.E j x w->p.E j x w')(hst:Steps P p l xs0 l 0)(hI:Inv p l xs0 L a w)(hr:i ∈ Region.ready .any l.toArray L)
  (h:∀ a' w',Inv p l xs0 (L.setIfInBounds i true) a' w'->K' a' w'):wpOpIn F n P l.toArray Q' i K' a w:=by
 obtain ⟨xs,rfl,hs,jm,hC,hv,hold⟩:=hI;have i6:=jm.next hr;obtain ⟨_,o,ho,_⟩:=mem_ready.1 hr;have iH:l[i]? = some o:=by simpa using ho
 have iV:∀ {w':World},p.Ext i w w'->∀ j,j≠i->L.getD j false=true->p.E j (xs j) w->p.E j (xs j) w':=fun hx j i2 hl hE=>by
  cases hre:reach l.toArray 6 j i with
  |false=>exact iJ i j _ _ _ i2 hre hx hE
  |true =>
   have h1:=jm.reach 6 j i hl hre;have h2:=(mem_ready.1 hr).1;have hlt:i<l.length:=(List.getElem?_eq_some_iff.1 iH).1;rw [bI (by rw [hs];exact hlt),h2] at h1
   cases h1
 have hstep:=steps_at l 0 hst i o iH;rw [Nat.zero_add] at hstep;unfold wpOpIn;simp only [ho]
 rcases hstep L w xs ⟨hs,jm,hr,hC,hv,hold⟩ with ⟨hw,hu⟩ | ⟨hw,jp,hE⟩
 ·rw [if_pos hw];unfold Oper.wpIn;refine ⟨fun f _=>hfn f,?_⟩;rw [Oper.semAt_plain F _ _ (Reg.noDefer_at i8 iH)];generalize (execOp (p.F xs).eval o).run P w=r at *
  cases r with
  |halt x w'=>exact hu.elim
  |ok nx w' =>
   cases nx <;> simp only [upon] at hu <;> simp only [Oper.uponIn]
   case value u =>
    obtain ⟨h1,h2,h3⟩:=hu;exact h _ _ (Inv.next hput iH hs i6 hv hold h1 h2 (iV h3))
   case skip =>
    obtain ⟨h1,h2,h3⟩:=hu;exact h _ _ (Inv.next hput iH hs i6 hv hold h1 h2 (iV h3))
   case enter f args =>
    refine ⟨fun hh=>(by rw [hd] at hh;cases hh),(iI f args w' _ hu).mono fun e w'' ⟨v,he,h1,h2,h3⟩=>?_⟩;subst he;exact h _ _ (Inv.next hput iH hs i6 hv hold h1 h2 (iV h3))
 ·rw [if_neg (by rw [hw];exact Bool.false_ne_true)];exact ⟨fun f _=>hfn f,h _ _ (Inv.next hput iH hs i6 hv hold jp hE fun _ _ _ h=>h)⟩
theorem anyIn_of{Q':Exit->Act->World->Prop}(hfn:∀ f,F.fn f)(hd:F.depth=none)(iI:∀ (f:FuncId) (args:Array Value) (w:World) (R:Ending->World->Prop),Calls P f args w R->CallsIn F (n - 1) P f args w R)(i8:bz l=true)(iG:bP (l++[default]) l.length=true)(hput:∀ i o,l[i]? = some o->∀ xs v,(p.F xs).put o.dst v=p.F (upd xs i v))(iJ:∀ i j x w w',j≠i->reach l.toArray 6 j i=false->p.Ext i w w'->p.E j x w->p.E j x w')(hst:Steps P p l xs0 l 0)(hQ:∀ a w,Inv p l xs0 (Array.replicate l.length true) a w->Q' .normal a w) :
  ∀ (f:Nat) (L:Array Bool) (a:Act) (w:World),L.size=l.length->Inv p l xs0 L a w->aN l.length L=f->wpAnyIn F n P .any l.toArray Q' f L a w:=by
 have hend:∀ (L:Array Bool) a w,L.size=l.length->Region.ready .any l.toArray L=[]->Inv p l xs0 L a w->Q' .normal a w:=by
  intro L a w hs hr hI;rw [Mix.all_listed iG hs hr] at hI;exact hQ a w hI
 intro f
 induction f with
 |zero =>
  intro L a w hs hI hu;have hr:Region.ready .any l.toArray L=[]:=by
   cases hc:Region.ready .any l.toArray L with
   |nil=>rfl
   |cons i t =>
    have hi:i ∈ Region.ready .any l.toArray L:=by rw [hc];simp
    obtain ⟨h0,o,ho,_⟩:=mem_ready.1 hi;have hlt:i<l.length:=by simpa using (Array.getElem?_eq_some_iff.1 ho).1
    have:=bf hu i hlt;rw [this] at h0
    cases h0
  exact ⟨hr,hend L a w hs hr hI⟩
 |succ f ih =>
  intro L a w hs hI hu;refine ⟨fun hr=>hend L a w hs hr hI,fun i hi=>wpOpIn_of hfn hd iI i8 hput iJ hst hI hi fun a' w' hI'=>ih _ a' w' (by simpa using hs) hI' ?_⟩;obtain ⟨h0,o,ho,_⟩:=mem_ready.1 hi;have hlt:i<l.length:=by simpa using (Array.getElem?_eq_some_iff.1 ho).1
  have:=bo hs hlt h0;omega
theorem regionIn{id:Nat}{Q:Exit->Act->World->Prop}{a:Act}{w:World}(hfn:∀ f,F.fn f)(hd:F.depth=none)(iI:∀ (f:FuncId) (args:Array Value) (w:World) (R:Ending->World->Prop),Calls P f args w R->CallsIn F (n - 1) P f args w R)(i8:bz l=true)(p:Plan)(xs0:Nat->Value)(hm:P.follows .mixedOrders=true)(iG:bP (l++[default]) l.length=true)(h0:a=p.F xs0)(hC:p.C (Array.replicate l.length false) { w with drawn:=w.drawn+1 })
  (iS:Puts p l 0) (iJ:∀ i j x w w',j≠i->reach l.toArray 6 j i=false->p.Ext i w w'->p.E j x w->p.E j x w') (hst:Steps P p l xs0 l 0)
  (hend:∀ xs w',p.C (Array.replicate l.length true) w'->(∀ j,j<l.length->p.E j (xs j) w')->Q .normal (p.F xs) w'):(Code.region id l.toArray true).wpIn F n P Q a w:=by
 refine wpIn_region_any hm ?_;have hput:∀ i o,l[i]? = some o->∀ xs v,(p.F xs).put o.dst v=p.F (upd xs i v):=fun i o ho=>by
  have:=puts_at l 0 iS i o ho
  rwa [Nat.zero_add] at this
 have:=anyIn_of (Q':=Q) hfn hd iI i8 iG hput iJ hst (fun a w ⟨xs,e,_,_,hC,hv,_⟩=>by
  subst e;refine hend xs w hC fun j hj=>hv j hj ?_
  rw [Array.getD_eq_getD_getElem?,Array.getElem?_replicate,if_pos hj]
  rfl) l.length (Array.replicate l.length false) a { w with drawn:=w.drawn+1 } (by simp) ⟨xs0,h0,by simp,Closed.start _ _,hC,fun j hj hl=>(by rw [getD_replicate_false] at hl;cases hl),fun j _=>rfl⟩ (a9 _)
 simpa using this
theorem regionFIn{id:Nat}{Q:Exit->Act->World->Prop}{a:Act}{w:World}(hfn:∀ f,F.fn f)(hd:F.depth=none)(iI:∀ (f:FuncId) (args:Array Value) (w:World) (R:Ending->World->Prop),Calls P f args w R->CallsIn F (n - 1) P f args w R)(i8:bz l=true)(E:Nat->Value->World->Prop)(C:Array Bool->World->Prop)(X:Nat->World->World->Prop)(st:∀ i j x w w',j≠i->reach l.toArray 6 j i=false->X i w w'->E j x w->E j x w')
  (hm:P.follows .mixedOrders=true) (iG:bP (l++[default]) l.length=true) (hap:bs (dsts l)=true) (hC:C (Array.replicate l.length false) { w with drawn:=w.drawn+1 })
  (H:∀ (F:(Nat->Value)->Act),(∀ xs,F xs=frame xs (dsts l) 0 a)->Steps P ⟨F,E,C,X⟩ l (fun i=>match (dsts l)[i]? with | some (some d)=>a.tmps.getD d undef | _=>undef) l 0 /\
   (∀ xs w',C (Array.replicate l.length true) w'->(∀ j,j<l.length->E j (xs j) w')->Q .normal (F xs) w')):(Code.region id l.toArray true).wpIn F n P Q a w:=by
 obtain ⟨h1,h2⟩:=H (fun xs=>frame xs (dsts l) 0 a) (fun _=>rfl);refine regionIn hfn hd iI i8 ⟨fun xs=>frame xs (dsts l) 0 a,E,C,X⟩ _ hm iG (bO a hap) hC (puts_of l 0 fun j d hd xs v=>?_) st h1 h2;have:=cn xs v (dsts l) 0 a hap j d hd
 simpa using this
end
end RegX
end
section
theorem But.drew{g B:Nat}{w w':World}(h:But g B w w'):But g B w w'.drew:=⟨h.os,h.tape,h.output,h.size,h.block⟩
theorem cM(g:Nat)(t:TypeId):∀ (vs pre old:List Value) (w:World),Has w g (pre++old) t->old.length=vs.length->Has (w.setCells g pre.length vs) g (pre++vs) t
 |[],pre,old,w,h,hl=>by
  have:old=[]:=List.eq_nil_of_length_eq_zero hl;subst this;exact h
 |v :: vs,pre,old,w,h,hl=>by
  cases old with
  |nil=>simp at hl
  |cons o old =>
   have h1:=h.set pre.length v;rw [List.set_append_right _ _ (Nat.le_refl _),Nat.sub_self,List.set_cons_zero] at h1;have h2:=cM g t vs (pre++[v]) old (w.setCell ⟨g,pre.length,none⟩ v) (by simpa using h1) (by simpa using hl)
   simpa [World.setCells] using h2
theorem bX(g B:Nat)(w:World):∀ (vs:List Value) (o:Nat) (w':World),But g B w w'->But g B w (w'.setCells g o vs)
 | [],_,_,h=>h
 | v :: vs,o,w',h=>bX g B w vs (o+1) _ (h.set o v)
theorem fJ{w:World}{g:Nat}{C:List Value}{t:TypeId}(h:Has w g C t)(n:Nat)(hn:n<=C.length):w.there g 0 n:=fun j hj=>by
 rw [Nat.zero_add,h.cell j (C[j]'(by omega)) (List.getElem?_eq_getElem _)];exact ⟨rfl,h.free j⟩
section
variable {P : Program}
theorem cd{ops:Array Oper}{rest:List Oper}{o:Oper}{a:Act}{w:World}{Q:Exit->Act->World->Prop}(hgd:o.guard=none)(ty:TypeId)(x:Operand)(ho:o.op=.load ty x)
  (g:Nat) (hx:a.eval x=.pointer (some ⟨g,0,none⟩)) (t:TypeId) (C:List Value) (d:TypeDesc) (n:Nat) (hg:Has w g C t)
  (hu:P.underlying ty=some d) (hd:(match d with | .struct _ | .array _ _=>true | _=>false)=true) (hi:(P.info? ty).map (·.size)=some n) (hn:C.length=n)
  (h:wpList P ops Q rest (a.put o.dst (.agg C.toArray)) w):wpList P ops Q (o :: rest) a w :=
 wpList_load_row hgd ty x ho g hx t C.toArray (0,0) d hg hu hd (by rw [hi];simp [hn]) h
theorem bt{ops:Array Oper}{rest:List Oper}{o:Oper}{a:Act}{w:World}{Q:Exit->Act->World->Prop}(hgd:o.guard=none)(ty:TypeId)(x y:Operand)(ho:o.op=.store ty x y)
  (g:Nat) (hx:a.eval x=.pointer (some ⟨g,0,none⟩)) (t:TypeId) (old C:List Value) (n:Nat) (hy:a.eval y=.agg C.toArray) (hg:Has w g old t)
  (hi:(P.info? ty).map (·.size)=some n) (iH:old.length=n) (hn:C.length=n) (h1:∀ v ∈ C,v.oneCell'=true)
  (h:∀ w',Has w' g C t->But g w.heap.size w w'->wpList P ops Q rest (a.put o.dst undef) w'):wpList P ops Q (o :: rest) a w:=by
 refine wpList_store_mid hgd ty x y ho g 0 C.toArray hx hy (fJ hg _ (by simp;omega)) (by rw [hi];simp [hn]) (all_oneCell_toArray h1) ?_;have h2:=cM g t C [] old w hg (by omega);exact h _ (by simpa using h2) (bX g w.heap.size w C 0 w (But.refl _ _ _))
theorem df{fn:Func}{p:Tmp}{ty:TypeId}(h:fn.results=#[.cell p ty])(tmps:Array Value)(w:World)(g:Nat)(t:TypeId)(C:List Value)(d:TypeDesc)(n:Nat)
  (hp:tmps.getD p undef=.pointer (some ⟨g,0,none⟩)) (hg:Has w g C t)
  (hu:P.underlying ty=some d) (hd:(match d with | .struct _ | .array _ _=>true | _=>false)=true) (hi:(P.info? ty).map (·.size)=some n) (hn:C.length=n) :
  (results fn tmps).run P w=.ok (.agg C.toArray) w :=
 results_cell_row h tmps w g t C.toArray (0,0) d hp hg hu hd (by rw [hi];simp [hn])
end
end
section
structure Upd (S:aE) (w w':World):Prop where
 os:w'.os=w.os
 tape:w'.tape=w.tape
 output:w'.output=w.output
 size:w.heap.size<=w'.heap.size
 block:∀ b,b<w.heap.size->¬ S b->w'.heap[b]? = w.heap[b]?
theorem Upd.refl(S:aE)(w:World):Upd S w w:=⟨rfl,rfl,rfl,Nat.le_refl _,fun _ _ _=>rfl⟩
theorem Upd.trans{S:aE}{a b c:World}(h:Upd S a b)(k:Upd S b c):Upd S a c :=
 ⟨k.os.trans h.os,k.tape.trans h.tape,k.output.trans h.output,Nat.le_trans h.size k.size,fun i hi hs=>(k.block i (Nat.lt_of_lt_of_le hi h.size) hs).trans (h.block i hi hs)⟩
theorem Upd.mono{S T:aE}{w w':World}(h:Upd S w w')(hs:∀ b,b<w.heap.size->S b->T b):Upd T w w':=⟨h.os,h.tape,h.output,h.size,fun b hb ht=>h.block b hb fun hs'=>ht (hs b hb hs')⟩
theorem Upd.ofBelow{S:aE}{w w':World}(h:Below w.heap.size w w'):Upd S w w':=⟨h.os,h.tape,h.output,h.size,fun b hb _=>h.block b hb⟩
theorem Upd.below{S:aE}{B:Nat}{w w':World}(h:Upd S w w')(hB:B<=w.heap.size)(hs:∀ b,S b->B<=b):Below B w w' :=
 ⟨h.os,h.tape,h.output,h.size,fun b hb=>h.block b (by omega) fun k=>by have:=hs b k;omega⟩
theorem Upd.keep{S:aE}{w w':World}(h:Upd S w w'):KeepZ (fun b=>¬ S b) w w':=⟨h.size,h.block⟩
theorem Upd.ofBut{g:Nat}{w w':World}(h:But g w.heap.size w w'):Upd (fun b=>b=g) w w':=⟨h.os,h.tape,h.output,h.size,fun b hb hn=>h.block b hb hn⟩
theorem Upd.setCell{S:aE}{a w:World}(h:Upd S a w){p:Addr}(hp:S p.block\/a.heap.size<=p.block)(u:Value):Upd S a (w.setCell p u) :=
 ⟨h.os,h.tape,h.output,by rw [World.size_setCell];exact h.size,fun b hb hn=>by rw [heap_setCell_other w p b u (fun e=>by subst e;rcases hp with hp | hp;exact hn hp;omega)];exact h.block b hb hn⟩
theorem Upd.alloc{S:aE}{a w:World}(h:Upd S a w)(o:Obj):Upd S a (w.alloc o):=h.trans (.ofBelow (iF _ o))
theorem Upd.drew{S:aE}{a w:World}(h:Upd S a w):Upd S a w.drew:=⟨h.os,h.tape,h.output,h.size,h.block⟩
theorem _root_.Go.RowKit.Below.upd{S:aE}{B:Nat}{a b c:World}(h:Below B a b)(k:Upd S b c)(hB:B<=b.heap.size)(hs:∀ x,S x->B<=x):Below B a c:=h.trans (k.below hB hs)
section
variable {α : Type} {E : Elem α} {Z Y : aE} {w w' : World} {v u : Value} {L M : List α} {B : Nat} {ty : TypeId}
theorem HeldE.upd{S:aE}(h:HeldE E Z w v L)(hk:Upd S w w')(hs:∀ b,Z b->¬ S b):HeldE E Z w' v L:=h.kept (hk.keep.mono fun b _ hz=>hs b hz)
theorem OwnE.upd{S:aE}(h:OwnE E Z w B ty v L)(hk:Upd S w w')(hs:∀ b,Z b\/v.ownBlock=some b->¬ S b):OwnE E Z w' B ty v L:=h.keep (hk.keep.mono fun b _ hz=>hs b hz) fun _ _ hz=>hz
theorem d8{Zi:Nat->aE}{CS:List (List Value)}(hl:CS.length=L.length)(h:∀ i,i<L.length->E.rep (Zi i) w (CS.getD i []) (L.getD i E.zero)):∀ C ∈ CS,C.length=E.size:=by
 intro C hC;obtain ⟨i,hi,rfl⟩:=List.getElem_of_mem hC;have:=E.len (h i (by omega))
 rwa [show CS.getD i []=CS[i] from by simp [List.getD,List.getElem?_eq_getElem hi]] at this
def OwnI(E:Elem α)(Zi:Nat->aE)(w:World)(B:Nat)(ty:TypeId)(v:Value)(L:List α):Prop :=
 ∃ CS:List (List Value),w.ownsRow B ty E.size v L.length CS.flatten/\CS.length=L.length/\∀ i,i<L.length->E.rep (fun b=>Zi i b/\v.ownBlock≠some b) w (CS.getD i []) (L.getD i E.zero)
theorem OwnE.each(h:OwnE E Z w B ty v L):OwnI E (fun _=>Z) w B ty v L:=h
theorem OwnI.all{Zi:Nat->aE}(h:OwnI E Zi w B ty v L)(hz:∀ i b,i<L.length->b<w.heap.size->Zi i b->Z b):OwnE E Z w B ty v L:=by
 obtain ⟨CS,h1,h2,h3⟩:=h;exact ⟨CS,h1,h2,fun i hi=>E.keep (.refl _ _) (fun b hb k=>⟨hz i b hi hb k.1,k.2⟩) (h3 i hi)⟩
theorem OwnI.keep{Zi Yi:Nat->aE}(h:OwnI E Zi w B ty v L)(hk:KeepZ (fun b=>(∃ i,i<L.length/\Zi i b)\/v.ownBlock=some b) w w')(hy:∀ i b,i<L.length->b<w.heap.size->Zi i b->Yi i b):OwnI E Yi w' B ty v L:=by
 obtain ⟨CS,h1,h2,h3⟩:=h;exact ⟨CS,hk.own h1 fun b hb=>.inr hb,h2,fun i hi=>E.keep (hk.mono fun b _ hz=>.inl ⟨i,hi,hz.1⟩) (fun b hb hz=>⟨hy i b hi hb hz.1,hz.2⟩) (h3 i hi)⟩
theorem OwnI.below{Zi:Nat->aE}(h:OwnI E Zi w B ty v L)(hb:Below w.heap.size w w'):OwnI E Zi w' B ty v L:=h.keep (.all hb _) fun _ _ _ _ hz=>hz
theorem OwnI.lt{Zi:Nat->aE}(h:OwnI E Zi w B ty v L):∀ k,v.ownBlock=some k->B<=k/\k<w.heap.size:=by
 obtain ⟨CS,h,_⟩:=h;exact h.lt
theorem OwnI.at{Zi:Nat->aE}{g cap n:Nat}(h:OwnI E Zi w B ty (.slice (some ⟨g,0,none⟩) n cap) L){i:Nat}(hi:i<L.length):∃ C,(∀ j,j<E.size->w.cell? ⟨g,i * E.size+j,none⟩=C[j]? /\ w.frozen? ⟨g,i * E.size+j,none⟩=false)/\E.rep (fun b=>Zi i b/\b≠g) w C (L.getD i E.zero):=by
 obtain ⟨CS,h1,h2,h3⟩:=h;have hn:n=L.length:=by
  rcases h1.2 with ⟨h',_⟩ | ⟨g',cap',cur,h',_⟩
  ·simp at h'
  ·simp only [Value.slice.injEq] at h';exact h'.2.1
 subst hn;have jB:=d8 h2 (Zi:=fun i b=>Zi i b/\_) h3;refine ⟨CS.getD i [],fun j hj=>⟨?_,h1.frozenAt _⟩,E.keep (.refl _ _) (fun b _ hz=>⟨hz.1,fun e=>hz.2 (by subst e;rfl)⟩) (h3 i hi)⟩;rw [h1.cellAt (i * E.size+j) (by
   have:i * E.size+E.size<=L.length * E.size:=by rw [<-Nat.succ_mul];exact Nat.mul_le_mul_right _ hi
   omega)]
 exact dq jB i j (by omega) hj
theorem cU{g n cap size:Nat}:∀ (vs:List Value) (o:Nat) (xs:List Value) (w:World),w.ownsRow B ty size (.slice (some ⟨g,0,none⟩) n cap) n xs->o+vs.length<=xs.length ->
  (w.setCells g o vs).ownsRow B ty size (.slice (some ⟨g,0,none⟩) n cap) n (xs.take o++vs++xs.drop (o+vs.length))
 |[],o,xs,w,h,_=>by simpa [World.setCells] using h
 |v :: vs,o,xs,w,h,hl=>by
  simp only [List.length_cons] at hl;have h1:=(h.stored o v).1;have h2:=cU vs (o+1) (xs.set o v) (w.setCell ⟨g,o,none⟩ v) h1 (by simp;omega);have e:(xs.set o v).take (o+1)++vs++(xs.set o v).drop (o+1+vs.length)=xs.take o++(v :: vs)++xs.drop (o+(v :: vs).length):=by
   rw [List.take_succ_eq_append_getElem (by simp;omega),List.take_set_of_le (Nat.le_refl _),List.drop_set_of_lt (by omega)]
   simp [List.length_cons,Nat.add_assoc,Nat.add_comm 1 vs.length]
  rw [e] at h2;exact h2
theorem eP{s:Nat}:∀ {CS:List (List Value)},(∀ C ∈ CS,C.length=s)->∀ (i:Nat) (C:List Value),i<CS.length->C.length=s->CS.flatten.take (i * s)++C++CS.flatten.drop (i * s+s)=(CS.set i C).flatten
 |[],_,i,_,hi,_=>absurd hi (Nat.not_lt_zero _)
 |D :: CS,h,0,C,_,hC=>by
  have hD:=h D (by simp);simp only [List.flatten_cons,Nat.zero_mul,List.take_zero,List.nil_append,Nat.zero_add,List.set_cons_zero];rw [<-hD,List.drop_left]
 |D :: CS,h,i+1,C,hi,hC=>by
  have hD:=h D (by simp);have ih:=eP (fun E hE=>h E (List.mem_cons_of_mem _ hE)) i C (by simpa using hi) hC;have e1:(i+1) * s=D.length+i * s:=by rw [hD,Nat.add_mul];omega
  simp only [List.flatten_cons,List.set_cons_succ];rw [e1,List.take_length_add_append,show D.length+i * s+s=D.length+(i * s+s) by omega,List.drop_length_add_append,<-ih]
  simp [List.append_assoc]
theorem OwnI.put{Zi:Nat->aE}{g n cap:Nat}(h:OwnI E Zi w B ty (.slice (some ⟨g,0,none⟩) n cap) L){i:Nat}(hi:i<L.length)(C:List Value)(x:α)(hr:E.rep (fun b=>Y b/\b≠g) w C x) :
  OwnI E (fun j=>if j=i then Y else Zi j) (w.setCells g (i * E.size) C) B ty (.slice (some ⟨g,0,none⟩) n cap) (L.set i x)/\Upd (fun b=>b=g) w (w.setCells g (i * E.size) C):=by
 have hu:Upd (fun b=>b=g) w (w.setCells g (i * E.size) C):=.ofBut (bX g w.heap.size w C _ w (But.refl _ _ _));refine ⟨?_,hu⟩;obtain ⟨CS,h1,h2,h3⟩:=h;have hn:n=L.length:=by
  rcases h1.2 with ⟨h',_⟩ | ⟨g',cap',cur,h',_⟩
  ·simp at h'
  ·simp only [Value.slice.injEq] at h';exact h'.2.1
 subst hn;have jB:=d8 h2 (Zi:=fun i b=>Zi i b/\_) h3;have hC:=E.len hr;have h4:=cU C (i * E.size) CS.flatten w h1 (by rw [cV jB,h2,hC,<-Nat.succ_mul];exact Nat.mul_le_mul_right _ hi);rw [hC,eP jB i C (by omega) hC] at h4;refine ⟨CS.set i C,by rw [List.length_set];exact h4,by simp [h2],fun j hj=>?_⟩;simp only [List.length_set] at hj;have hk:KeepZ (fun b=>b≠g) w (w.setCells g (i * E.size) C):=hu.keep
 by_cases e:j=i
 ·subst e;rw [show (CS.set j C).getD j []=C from by simp [List.getD,List.getElem?_set_self (show j<CS.length by omega)],show (L.set j x).getD j E.zero=x from by simp [List.getD,List.getElem?_set_self hi]];simp only [if_true];exact E.keep (hk.mono fun b _ hz=>hz.2) (fun b _ hz=>⟨hz.1,fun e=>hz.2 (by simpa [Value.ownBlock] using e.symm)⟩) hr
 ·rw [show (CS.set i C).getD j []=CS.getD j [] from by simp [List.getD,List.getElem?_set_ne (Ne.symm e)],show (L.set i x).getD j E.zero=L.getD j E.zero from by simp [List.getD,List.getElem?_set_ne (Ne.symm e)]];simp only [if_neg e];exact E.keep (hk.mono fun b _ hz=>fun e=>hz.2 (by subst e;rfl)) (fun b _ hz=>hz) (h3 j hj)
theorem OwnI.there{Zi:Nat->aE}{g n cap:Nat}(h:OwnI E Zi w B ty (.slice (some ⟨g,0,none⟩) n cap) L){i:Nat}(hi:i<L.length):w.there g (i * E.size) E.size:=by
 obtain ⟨C,h1,h2⟩:=h.at hi;intro j hj;obtain ⟨h3,h4⟩:=h1 j hj;rw [h3];exact ⟨by rw [List.getElem?_eq_getElem (by rw [E.len h2];exact hj)];rfl,h4⟩
end
end
def ix{α:Type}(F:Fence)(n:Nat)(P:Program)(g:Nat)(lb:Array Value)(encs:α->Array Value)(X:Nat->Nat->α->World->Prop)(C:aE)(S Sp:List α->Prop)(R:List α->α->Prop)(w:World):Prop :=
 ∀ (l:Nat) (J Jx:Nat->List α->World->Prop) (W:World),Below w.heap.size w W->(∀ b,C b->b<W.heap.size) ->
  (∀ hi pre A B,J hi pre A->Upd (fun b=>W.heap.size<=b/\b<hi) A B->J hi pre B) ->
  (∀ hi pre A B,Jx hi pre A->Upd (fun b=>W.heap.size<=b/\b<hi) A B->Jx hi pre B) ->
  (∀ hi pre x W1,W.heap.size<=hi->hi<=W1.heap.size->J hi pre W1->X W.heap.size hi x W1->R pre x->YieldAt F (n - 1) P l (encs x) W1 fun e W' =>
   (e=.returned (.bool true)/\J hi (pre++[x]) W'/\Upd (fun b=>C b\/(w.heap.size<=b/\b<W.heap.size)\/hi<=b) W1 W')\/(e=.returned (.bool false)/\Jx hi (pre++[x]) W')) ->
  (∀ hi W1,Below W.heap.size W W1->W.heap.size<=hi->hi<=W1.heap.size->J hi [] W1) ->
  CallsIn F n P g (#[.func (.yield l) #[] #[]]++lb) W fun e W'=>(∃ v,e=.returned v)/\((∃ hi xs,S xs/\J hi xs W')\/(∃ hi pre,Sp pre/\Jx hi pre W'))
def iy{α:Type}(U:World->Prop)(I:List α->World->Prop)(Ix:Code->List α->World->Prop)(xs:List α):Exit->Act->World->Prop
 | .normal,_,W'=>U W'/\I xs W'
 | .ret,_,W'=>U W'/\Ix .ret xs W'
 | .exit id,_,W'=>U W'/\Ix (.exit id) xs W'
 | .goto t,_,W'=>U W'/\Ix (.goto t) xs W'
 | .panic _,_,_=>False
 | .outgrown,_,_=>False
theorem bu{S:aE}(W:World)(l:Nat)(o:Obj)(h:S l):Upd S W (W.putObj l o) :=
 ⟨rfl,rfl,rfl,by simp,fun b _ hb=>World.putObj_heap_other (fun e=>hb (e ▸ h))⟩
theorem di{α:Type}{F:Fence}{n:Nat}{P:Program}{g:Operand}{ps:Array Tmp}{assign body:Code}{Q:Exit->Act->World->Prop}{a:Act}{w:World}
  (hro:F.round=none) (h1:1<=n) {gf:Nat} {lb:Array Value} (hg:a.eval g=.func (.func gf) #[] lb) (hFg:F.fn gf) (eg:∀ args w,(callFunc gf args).run P w=.ok (.enter gf args) w)
  {encs:α->Array Value} {X:Nat->Nat->α->World->Prop} {C:aE} {S Sp:List α->Prop} {R:List α->α->Prop} {w0:World} (hseq:ix F (n - 1) P gf lb encs X C S Sp R w0) (hb0:Below w0.heap.size w0 w) (hps:∀ x,(encs x).size=ps.size)
  (hC:∀ b,C b->b<w.heap.size)
  (I:Nat->List α->World->Prop) (Ix:Nat->Code->List α->World->Prop)
  (hI:∀ hi pre A B,I hi pre A->Upd (fun b=>w.heap.size<=b/\b<hi) A B->I hi pre B)
  (kJ:∀ hi c pre A B,Ix hi c pre A->Upd (fun b=>w.heap.size<=b/\b<hi) A B->Ix hi c pre B)
  (h0:∀ hi W1,Below w.heap.size w W1->w.heap.size+2<=hi->hi<=W1.heap.size->I hi [] W1) (a₁:α->Act)
  (hassign:∀ (l:Nat) (x:α) (W:World) (K:Act->World->Prop),K (a₁ x) W ->
   assign.wpIn (F.inRound l) (n - 1 - 1) P (Exit.then K (fun _ _ _=>False)) { tmps:=(ps.zip (encs x)).foldl (fun t (p,v)=>t.setIfInBounds p v) a.tmps,defers:=[] } W)
  (hbody:∀ (l hi:Nat) (pre:List α) (x:α) (W:World),w.heap.size+2<=hi->hi<=W.heap.size->I hi pre W->(∃ Wx,X (w.heap.size+2) hi x Wx/\Upd (fun b=>b=w.heap.size+1) Wx W)->R pre x ->
   body.wpIn (F.inRound l) (n - 1 - 1) P (iy (fun W'=>Upd (fun b=>C b\/hi<=b) W W') (I hi) (Ix hi) (pre++[x])) (a₁ x) W)
  (hdone:∀ (hi:Nat) (xs:List α) (W:World),S xs->I hi xs W->W.heap[w.heap.size]? = some (.deferred (some []))->Q .normal { a with defers:={ target:=.collected w.heap.size,args:=#[] } :: a.defers } W)
  (hstop:∀ (hi:Nat) (c:Code) (pre:List α) (W:World),Sp pre->Ix hi c pre W->W.heap[w.heap.size]? = some (.deferred (some []))->c.wpIn F n P Q { a with defers:={ target:=.collected w.heap.size,args:=#[] } :: a.defers } W) :
  (Code.rangeFunc g ps assign body).wpIn F n P Q a w:=by
 refine wpIn_rangeFunc fun fn hfn=>?_
 rw [hro];obtain ⟨m,hm⟩:=ab (w.heap.size);obtain ⟨rec,iU⟩ : ∃ rec:LoopState->Option Code->Loop,rec=fun st pe=>{ state:=st,pending:=pe,fn,tmps:=a.tmps,params:=ps,assign,body,defers:=m }:=⟨_,rfl⟩
 obtain ⟨W1,hW1⟩:=ab ((w.alloc (.deferred (some []))).alloc (.loop (rec .ready none)));have hs1:W1.heap.size=m+2:=by rw [hW1];simp [hm]
 have hL1:W1.heap[m+1]? = some (.loop (rec .ready none)):=by
  have h:=World.alloc_heap_new (w.alloc (.deferred (some []))) (.loop (rec .ready none));rw [World.size_alloc,<-hm] at h;rw [hW1];exact h
 have hK1:W1.heap[m]? = some (.deferred (some [])):=by
  rw [hW1,Below.heap_alloc _ _ _ (by simp [hm]),hm];exact World.alloc_heap_new w _
 have iN:Below w.heap.size w W1:=by rw [hW1];exact ((Below.refl _ w).alloc (Nat.le_refl _) _).alloc (by simp) _
 refine ⟨m+1,[{ target:=.collected m,args:=#[] }],W1,{ target:=.fn (.func gf) lb,args:=#[.func (.yield (m+1)) #[] #[]] },W1,gf,#[.func (.yield (m+1)) #[] #[]]++lb,W1,?_,?_,?_,?_,fun _=>h1,?_⟩
 ·rw [hW1,iU,hm];exact run_enterLoop_outer _ _ _ _ _
 ·simp only [resolve,hg]
  simp [go_sem]
 ·intro f' hf'
  simp [Target.leads] at hf'
  subst hf';exact hFg
 ·simp [invoke,go_sem,eg]
 have up:∀ {hi:Nat} {A B:World},m+2<=hi->Upd (fun b=>b=m+1) A B->Upd (fun b=>w.heap.size<=b/\b<hi) A B:=fun hh h=>h.mono fun b _ e=>by subst e;omega
 refine (hseq (m+1)
  (fun hi pre W=>m+2<=hi/\I hi pre W/\W.heap[m+1]? = some (.loop (rec .ready none))/\W.heap[m]? = some (.deferred (some [])))
  (fun hi pre W=>m+2<=hi/\∃ c,Ix hi c pre W/\W.heap[m+1]? = some (.loop (rec .done (some c)))/\W.heap[m]? = some (.deferred (some [])))
  W1 (hb0.trans (iN.mono hb0.size)) (fun b hb=>by have:=hC b hb;omega) ?_ ?_ ?_ ?_).mono ?_
 ·rintro hi pre A B ⟨hh,h2,h3,h4⟩ hu;have l3:=(Array.getElem?_eq_some_iff.1 h3).1;exact ⟨hh,hI hi pre A B h2 (hu.mono fun b _ e=>by omega),(hu.block _ l3 (by omega)).trans h3,(hu.block _ (by omega) (by omega)).trans h4⟩
 ·rintro hi pre A B ⟨hh,c,h2,h3,h4⟩ hu;have l3:=(Array.getElem?_eq_some_iff.1 h3).1;exact ⟨hh,c,kJ hi c pre A B h2 (hu.mono fun b _ e=>by omega),(hu.block _ l3 (by omega)).trans h3,(hu.block _ (by omega) (by omega)).trans h4⟩
 ·rintro hi pre x W iW jj ⟨hh,jU,hl,hk⟩ hx hlen;rw [hs1] at iW hx;have hlt:m+1<W.heap.size:=(Array.getElem?_eq_some_iff.1 hl).1;have hy:=run_yield (P:=P) (args:=encs x) hl (by rw [iU];exact hps x);rw [iU] at hy;refine ⟨fn,_,assign,body,hy,roundIn_of_wpIn hfn (hassign _ x W _ ⟨_,run_beginRound hl (by rw [iU]),?_⟩)⟩;obtain ⟨Wb,k9⟩:=ab (W.putObj (m+1) (.loop { rec .ready none with state:=.busy }));have ub:Upd (fun b=>b=m+1) W Wb:=by rw [k9];exact bu _ _ _ rfl
  have hl2:Wb.heap[m+1]? = some (.loop { rec .ready none with state:=.busy }):=by rw [k9];exact World.putObj_heap_same hlt
  have hk2:Wb.heap[m]? = some (.deferred (some [])):=(ub.block _ (by omega) (by omega)).trans hk;have fin:∀ (jump:Option Code) (W3:World),Upd (fun b=>C b\/hi<=b) Wb W3 ->
    ∃ W4,(Instr.endRound (m+1) jump).run P W3=.ok (.bool jump.isNone) W4/\Upd (fun b=>b=m+1) W3 W4/\W4.heap[m+1]? = some (.loop (rec (if jump.isNone then .ready else .done) jump))/\W4.heap[m]? = some (.deferred (some [])):=fun jump W3 hu=>by
   have hn1:¬ (C (m+1)\/hi<=m+1):=fun e=>by rcases e with e | e;have:=hC _ e;omega;omega
   have ki:¬ (C m\/hi<=m):=fun e=>by rcases e with e | e;have:=hC _ e;omega;omega
   have hsz:=ub.size;have je:=(hu.block (m+1) (by omega) hn1).trans hl2;have hk3:=(hu.block m (by omega) ki).trans hk2;have hr:=run_endRound (P:=P) jump je;rw [iU] at hr ⊢;refine ⟨_,hr,bu _ _ _ rfl,World.putObj_heap_same (by have:=hu.size;omega),(World.putObj_heap_other (by omega)).trans hk3⟩
  rw [<-k9];refine wpIn_mono (hbody _ hi pre x _ (by omega) (Nat.le_trans jj ub.size) (hI hi pre W Wb jU (up hh ub)) ⟨W,by rw [<-hm];exact hx,by rw [<-hm];exact ub⟩ hlen) ?_;rintro e a3 W3 hp;have way:∀ (c:Code),(fun W'=>Upd (fun b=>C b\/hi<=b) Wb W') W3/\Ix hi c (pre++[x]) W3->∃ v w',(Instr.endRound (m+1) (some c)).run P W3=.ok v w' /\
    ((Ending.returned v=.returned (.bool true)/\(m+2<=hi/\I hi (pre++[x]) w'/\w'.heap[m+1]? = some (.loop (rec .ready none))/\w'.heap[m]? = some (.deferred (some [])))/\Upd (fun b=>C b\/(w0.heap.size<=b/\b<W1.heap.size)\/hi<=b) W w') \/
     (Ending.returned v=.returned (.bool false)/\m+2<=hi/\∃ c,Ix hi c (pre++[x]) w'/\w'.heap[m+1]? = some (.loop (rec .done (some c)))/\w'.heap[m]? = some (.deferred (some [])))):=fun c ⟨hu,h⟩=>by
   obtain ⟨W4,r1,r2,r3,r4⟩:=fin (some c) W3 hu;exact ⟨_,W4,r1,.inr ⟨rfl,hh,c,kJ hi c _ _ _ h (up hh r2),r3,r4⟩⟩
  cases e with
  |normal =>
   obtain ⟨hu,h⟩:=hp;obtain ⟨W4,r1,r2,r3,r4⟩:=fin none W3 hu;refine ⟨_,W4,r1,.inl ⟨rfl,⟨hh,hI hi _ _ _ h (up hh r2),r3,r4⟩,?_⟩⟩;have hw0:=hb0.size;exact ((ub.mono fun b _ e=>.inr (.inl (by omega))).trans (hu.mono fun b _ e=>by rcases e with e | e;exact .inl e;exact .inr (.inr e))).trans (r2.mono fun b _ e=>.inr (.inl (by omega)))
  |ret=>exact way .ret hp
  |exit id=>exact way (.exit id) hp
  |goto t=>exact way (.goto t) hp
  |panic ch=>exact hp.elim
  |outgrown=>exact hp.elim
 ·intro hi W' hb iW jj;rw [hs1] at iW hb;refine ⟨iW,h0 hi W' (iN.trans (hb.mono (by omega))) (by omega) jj,(hb.block _ (by omega)).trans hL1,(hb.block _ (by omega)).trans hK1⟩
 ·rintro e W2 ⟨⟨v,rfl⟩,⟨hi,xs,hS,hh,jU,hl,hk⟩ | ⟨hi,pre,hSp,hh,c,jU,hl,hk⟩⟩
  ·have hr:=run_endLoop (P:=P) hl (by rw [iU];simp);rw [iU] at hr;refine ⟨none,_,hr,?_⟩;have:=hdone hi xs (W2.putObj (m+1) (.loop { rec .ready none with state:=.exhausted })) hS (hI hi xs _ _ jU (up hh (bu W2 (m+1) _ rfl))) (by rw [<-hm];exact (World.putObj_heap_other (by omega)).trans hk);rw [<-hm,iU] at this;exact this
  ·have hr:=run_endLoop (P:=P) hl (by rw [iU];simp);rw [iU] at hr;refine ⟨some c,_,hr,?_⟩;have:=hstop hi c pre (W2.putObj (m+1) (.loop { rec .done (some c) with state:=.exhausted })) hSp (kJ hi c pre _ _ jU (up hh (bu W2 (m+1) _ rfl))) (by rw [<-hm];exact (World.putObj_heap_other (by omega)).trans hk);rw [<-hm,iU] at this;exact this
section
open Go.RowKit
end
abbrev Cl:=Int × List Int
abbrev zc:Cl:=(0,[])
def inP(a m i:Nat):Prop:=a<=i/\i<a+m
instance (a m i:Nat):Decidable (inP a m i):=by unfold inP;infer_instance
def ii(L:List Cl)(a m i:Nat):Prop:=((L.getD i zc).1=2/\inP a m (i+1))\/((L.getD i zc).1=3/\0<i/\inP a m (i - 1))
instance (L:List Cl) (a m i:Nat):Decidable (ii L a m i):=by unfold ii;infer_instance
section
open Go.Joins Go.Deep
structure Pr where
 br:Int
 pc:Bool
 cv:Int
 ea:Int
def HeldP(w:World)(v:Value)(xs:List Pr):Prop :=
 ∃ ao cap,v=.slice ao xs.length cap/\∀ i (h:i<xs.length),∃ b off,ao=some ⟨b,off,none⟩/\b<w.heap.size/\w.cell? ⟨b,off+i * 4,none⟩=some (.int .i64 xs[i].br)/\w.cell? ⟨b,off+i * 4+1,none⟩=some (.bool xs[i].pc) /\
  w.cell? ⟨b,off+i * 4+2,none⟩=some (.int .i64 xs[i].cv)/\w.cell? ⟨b,off+i * 4+3,none⟩=some (.int .i64 xs[i].ea)
theorem HeldP.below{w w':World}{v:Value}{xs:List Pr}(h:HeldP w v xs)(hb:Below w.heap.size w w'):HeldP w' v xs:=by
 obtain ⟨ao,cap,rfl,hc⟩:=h;refine ⟨ao,cap,rfl,fun i hi=>?_⟩;obtain ⟨b,off,rfl,hlt,h1,h2,h3,h4⟩:=hc i hi;exact ⟨b,off,rfl,by have:=hb.size;omega,(hb.cell (p:=⟨b,_,none⟩) hlt).trans h1,(hb.cell (p:=⟨b,_,none⟩) hlt).trans h2,(hb.cell (p:=⟨b,_,none⟩) hlt).trans h3,(hb.cell (p:=⟨b,_,none⟩) hlt).trans h4⟩
theorem HeldP.view{w:World}{v:Value}{xs:List Pr}(h:HeldP w v xs):∃ ao cap,v=.slice ao xs.length cap/\∀ i (h:i<xs.length),∃ b off,ao=some ⟨b,off,none⟩/\b<w.heap.size/\w.cell? ⟨b,off+i * 4,none⟩=some (.int .i64 xs[i].br)/\w.cell? ⟨b,off+i * 4+1,none⟩=some (.bool xs[i].pc) /\
 w.cell? ⟨b,off+i * 4+2,none⟩=some (.int .i64 xs[i].cv)/\w.cell? ⟨b,off+i * 4+3,none⟩=some (.int .i64 xs[i].ea):=h
def Pr.none:Pr:=⟨0,false,0,0⟩
theorem HeldP.at{w:World}{ao:Option Addr}{n cap:Nat}{xs:List Pr}(h:HeldP w (.slice ao n cap) xs):n=xs.length/\∀ i,i<xs.length->∃ b off,ao=some ⟨b,off,none⟩/\b<w.heap.size/\w.cell? ⟨b,off+i * 4,none⟩=some (.int .i64 (xs.getD i Pr.none).br)/\w.cell? ⟨b,off+i * 4+1,none⟩=some (.bool (xs.getD i Pr.none).pc) /\
  w.cell? ⟨b,off+i * 4+2,none⟩=some (.int .i64 (xs.getD i Pr.none).cv)/\w.cell? ⟨b,off+i * 4+3,none⟩=some (.int .i64 (xs.getD i Pr.none).ea):=by
 obtain ⟨ao',cap',e,hc⟩:=h
 cases e
 refine ⟨rfl,fun i hi=>?_⟩;have:=hc i hi;rw [show xs[i]=xs.getD i Pr.none by simp [List.getD,List.getElem?_eq_getElem hi]] at this;exact this
end
end Go.Proofs.Ythdphijabffpiaa
namespace Go.Proofs.Ythdphijabffpiaa
def av(T:List (Int × Int))(r:Int):Bool:=T.any fun p=>decide (p.1<=r) && decide (r<=p.2)
def be:List (Int × Int)->Bool
 | []=>true
 | [p]=>decide (p.1<=p.2)
 | p :: q :: l=>decide (p.1<=p.2) && decide (p.2<q.1) && be (q :: l)
theorem b7{p:Int × Int}{l:List (Int × Int)}(h:be (p :: l)=true):p.1<=p.2/\be l=true/\∀ q ∈ l,p.2<q.1:=by
 induction l generalizing p with
 |nil=>exact ⟨by simpa [be] using h,rfl,fun q hq=>by cases hq⟩
 |cons q l ih =>
  simp only [be,Bool.and_eq_true,decide_eq_true_eq] at h;obtain ⟨i1,_,i3⟩:=ih h.2;refine ⟨h.1.1,h.2,fun x hx=>?_⟩
  rcases List.mem_cons.1 hx with rfl | hx
  ·exact h.1.2
  ·have:=i3 x hx;omega
theorem gx:∀ {T:List (Int × Int)},be T=true->∀ i (h:i<T.length),T[i].1<=T[i].2
 | [],_,i,h=>absurd h (Nat.not_lt_zero _)
 | p :: l,hu,0,_=>(b7 hu).1
 | p :: l,hu,i+1,h=>gx (T:=l) (b7 hu).2.1 i (by simpa using h)
theorem gy:∀ {T:List (Int × Int)},be T=true->∀ i j (hi:i<j) (hj:j<T.length),(T[i]'(by omega)).2<T[j].1
 | [],_,i,j,_,hj=>absurd hj (Nat.not_lt_zero _)
 | p :: l,hu,0,j+1,_,hj=>(b7 hu).2.2 _ (List.getElem_mem (by simpa using hj))
 | p :: l,hu,i+1,j+1,hi,hj=>gy (T:=l) (b7 hu).2.1 i j (by omega) (by simpa using hj)
theorem gz{T:List (Int × Int)}{r:Int}(i:Nat)(h:i<T.length)(h1:T[i].1<=r)(h2:r<=T[i].2):av T r=true :=
 List.any_eq_true.2 ⟨T[i],List.getElem_mem h,by simp [h1,h2]⟩
theorem gA{T:List (Int × Int)}{r:Int}(h:av T r=true):∃ i,∃ h:i<T.length,T[i].1<=r/\r<=T[i].2:=by
 obtain ⟨p,hp,hh⟩:=List.any_eq_true.1 h;obtain ⟨i,hi,rfl⟩:=List.getElem_of_mem hp
 simp at hh
 exact ⟨i,hi,hh.1,hh.2⟩
theorem dz{T:List (Int × Int)}{r:Int}(h:∀ i (h:i<T.length),¬ (T[i].1<=r/\r<=T[i].2)):av T r=false:=by
 cases ht:av T r with
 |false=>rfl
 |true =>
  obtain ⟨i,hi,hh⟩:=gA ht;exact absurd hh (h i hi)
theorem er{T:List (Int × Int)}{r:Int}(hu:be T=true)(i:Nat)(hi:i<T.length)(iW:∀ j (hj:j<i),(T[j]'(by omega)).2<r)(jj:r<=T[i].2):av T r=decide (T[i].1<=r):=by
 by_cases h1:T[i].1<=r
 ·rw [decide_eq_true h1];exact gz i hi h1 jj
 ·rw [decide_eq_false h1];refine dz fun k hk hh=>?_
  rcases Nat.lt_trichotomy k i with h | h | h
  ·have:=iW k h;omega
  ·subst h;omega
  ·have:=gy hu i k h hk;have:=gx hu i hi;omega
theorem fh{T:List (Int × Int)}{r:Int}(iW:∀ j (hj:j<T.length),(T[j]'(by omega)).2<r):av T r=false :=
 dz fun k hk hh=>by have:=iW k hk;omega
def apart(T U:List (Int × Int)):Bool:=T.all fun p=>U.all fun q=>decide (p.2<q.1) || decide (q.2<p.1)
def iD(T U:List (Int × Int)):Bool:=T.all fun p=>U.any fun q=>decide (q.1<=p.1) && decide (p.2<=q.2)
def tControl:List (Int × Int):=[
 (0,9),(11,12),(14,31),(127,159),(173,173),(1564,1564),(6158,6158),(8203,8203),(8206,8207),(8232,8238),(8288,8303),
 (65279,65279),(65520,65531),(917504,917535),(917632,917759),(918000,921599)]
theorem bA:be tControl=true:=by decide +kernel
theorem ax:tControl.length=16:=by decide +kernel
def tExtend:List (Int × Int):=[
 (768,879),(1155,1161),(1425,1469),(1471,1471),(1473,1474),(1476,1477),(1479,1479),(1552,1562),(1611,1631),(1648,1648),
 (1750,1756),(1759,1764),(1767,1768),(1770,1773),(1809,1809),(1840,1866),(1958,1968),(2027,2035),(2070,2073),(2075,2083),
 (2259,2273),(2275,2306),(2362,2362),(2364,2364),(2369,2376),(2381,2381),(2385,2391),(2402,2403),(2433,2433),(2492,2492),
 (2494,2494),(2497,2500),(2509,2509),(2519,2519),(2530,2531),(2561,2562),(2620,2620),(2625,2626),(2631,2632),(2635,2637),
 (2748,2748),(2753,2757),(2765,2765),(2876,2876),(2878,2879),(2881,2884),(2893,2893),(2902,2903),(3132,3132),(3134,3136),
 (3142,3144),(3146,3149),(3276,3277),(3390,3390),(3393,3396),(3405,3405),(3633,3633),(3636,3642),(3655,3662),(3761,3761),
 (3764,3772),(3864,3865),(3953,3966),(4957,4959),(6832,6862),(7616,7679),(8204,8204),(8400,8432),(12330,12335),(12441,12442),
 (42607,42610),(64286,64286),(65024,65039),(65056,65071),(127995,127999),(917536,917631),(917760,917999)]
theorem b8:be tExtend=true:=by decide +kernel
theorem aH:tExtend.length=77:=by decide +kernel
def tPrepend:List (Int × Int):=[
 (1536,1541),(1757,1757),(1807,1807),(2192,2193),(2274,2274),(3406,3406),(69821,69821),(69837,69837)]
theorem dh:be tPrepend=true:=by decide +kernel
theorem a7:tPrepend.length=8:=by decide +kernel
def tSpacing:List (Int × Int):=[
 (2307,2307),(2363,2363),(2366,2368),(2377,2380),(2382,2383),(2434,2435),(2495,2496),(2503,2504),(2507,2508),(2563,2563),
 (2622,2624),(2691,2691),(2750,2752),(2761,2761),(2818,2819),(2880,2880),(2887,2888),(3073,3075),(3137,3140),(3330,3331),
 (3391,3392),(3398,3400),(3635,3635),(3763,3763),(3902,3903),(4155,4156)]
theorem cl:be tSpacing=true:=by decide +kernel
theorem aM:tSpacing.length=26:=by decide +kernel
def tPict:List (Int × Int):=[
 (169,169),(174,174),(8252,8252),(8265,8265),(8482,8482),(8505,8505),(8596,8601),(8617,8618),(8986,8987),(9000,9000),(9096,9096),
 (9167,9167),(9193,9203),(9208,9210),(9410,9410),(9642,9643),(9654,9654),(9664,9664),(9723,9726),(9728,9733),(9735,9746),
 (9748,9861),(9872,9989),(9992,10002),(10004,10004),(10006,10006),(10013,10013),(10017,10017),(10024,10024),(10035,10036),
 (10052,10052),(10055,10055),(10060,10060),(10062,10062),(10067,10069),(10071,10071),(10083,10087),(10133,10135),(10145,10145),
 (10160,10160),(10175,10175),(10548,10549),(11013,11015),(11035,11036),(11088,11088),(11093,11093),(12336,12336),(12349,12349),
 (12951,12951),(12953,12953),(126976,127231),(127245,127247),(127279,127279),(127340,127345),(127358,127359),(127374,127374),
 (127377,127386),(127405,127461),(127489,127503),(127514,127514),(127535,127535),(127538,127546),(127548,127551),(127561,127994),
 (128000,128317),(128326,128591),(128640,128767),(128884,128895),(128981,129023),(129036,129039),(129096,129103),(129114,129119),
 (129160,129167),(129198,129279),(129292,129338),(129340,129349),(129351,129791),(130048,131069)]
theorem gB:be tPict=true:=by decide +kernel
theorem cr:tPict.length=78:=by decide +kernel
def tCons:List (Int × Int):=[
 (2325,2361),(2392,2399),(2424,2431),(2453,2472),(2474,2480),(2482,2482),(2486,2489),(2524,2525),(2527,2527),(2544,2545),
 (2709,2728),(2730,2736),(2738,2739),(2741,2745),(2809,2809),(2837,2856),(2858,2864),(2866,2867),(2869,2873),(2908,2909),
 (2911,2911),(2929,2929),(3093,3112),(3114,3129),(3160,3162),(3349,3386)]
theorem cQ:be tCons=true:=by decide +kernel
theorem aT:tCons.length=26:=by decide +kernel
def tLink:List (Int × Int):=[
 (2381,2381),(2509,2509),(2765,2765),(2893,2893),(3149,3149),(3405,3405)]
theorem dA:be tLink=true:=by decide +kernel
theorem bi:tLink.length=6:=by decide +kernel
def tJoin:List (Int × Int):=[
 (768,879),(1155,1159),(1425,1469),(1552,1562),(1611,1631),(2364,2364),(2385,2388),(2492,2492),(2748,2748),(2876,2876),
 (3132,3132),(6832,6845),(7616,7679),(8205,8205),(8400,8412),(12330,12335),(12441,12442),(65056,65071)]
theorem eB:be tJoin=true:=by decide +kernel
theorem bF:tJoin.length=18:=by decide +kernel
def tWide:List (Int × Int):=[
 (4352,4447),(8986,8987),(9001,9002),(9193,9196),(9200,9200),(9203,9203),(9725,9726),(9748,9749),(9800,9811),(9855,9855),
 (9875,9875),(9889,9889),(9898,9899),(9917,9918),(9924,9925),(9934,9934),(9940,9940),(9962,9962),(9970,9971),(9973,9973),
 (9978,9978),(9981,9981),(9989,9989),(9994,9995),(10024,10024),(10060,10060),(10062,10062),(10067,10069),(10071,10071),
 (10133,10135),(10160,10160),(10175,10175),(11035,11036),(11088,11088),(11093,11093),(11904,11929),(11931,12019),(12032,12245),
 (12272,12287),(12289,12350),(12353,12438),(12441,12543),(12549,12591),(12593,12686),(12688,12771),(12784,12830),(12832,12871),
 (12880,19903),(19968,42124),(42128,42182),(43360,43388),(44032,55203),(63744,64255),(65040,65049),(65072,65106),(65108,65126),
 (65128,65131),(94176,94180),(94208,100343),(100352,101589),(110592,110882),(126980,126980),(127183,127183),(127374,127374),
 (127377,127386),(127488,127490),(127504,127547),(127552,127560),(127568,127569),(127584,127589),(127744,127776),(127789,127797),
 (127799,127868),(127870,127891),(127904,127946),(127951,127955),(127968,127984),(127988,127988),(127992,128062),(128064,128064),
 (128066,128252),(128255,128317),(128331,128334),(128336,128359),(128378,128378),(128405,128406),(128420,128420),(128507,128591),
 (128640,128709),(128716,128716),(128720,128722),(128725,128727),(128732,128735),(128747,128748),(128756,128764),(128992,129003),
 (129008,129008),(129292,129338),(129340,129349),(129351,129535),(129648,129660),(129664,129672),(129680,129725),(129727,129733),
 (129742,129755),(129760,129768),(129776,129784),(131072,196605),(196608,262141)]
theorem cR:be tWide=true:=by decide +kernel
theorem aU:tWide.length=109:=by decide +kernel
def tFull:List (Int × Int):=[
 (12288,12288),(65281,65376),(65504,65510)]
theorem dB:be tFull=true:=by decide +kernel
theorem bj:tFull.length=3:=by decide +kernel
def tHalf:List (Int × Int):=[
 (8361,8361),(65377,65470),(65474,65479),(65482,65487),(65490,65495),(65498,65500),(65512,65518)]
theorem eC:be tHalf=true:=by decide +kernel
theorem bG:tHalf.length=7:=by decide +kernel
theorem a1:apart tSpacing tPrepend=true:=by decide +kernel
theorem a2:apart tControl [(13,13),(10,10),(8205,8205),(127462,127487)]=true:=by decide +kernel
theorem a3:apart tExtend [(13,13),(10,10),(8205,8205),(127462,127487)]=true:=by decide +kernel
end Go.Proofs.Ythdphijabffpiaa
open Go
namespace Go.Proofs.Try
def zeroCells57:Array Value:=Array.replicate 156 (.int .i32 0)
theorem zeroValue57:∀ w:World,Sem.run Try.prog (Go.zeroValue 57) w=.ok (.agg zeroCells57) w:=fun w=>by kernel_rfl
theorem da:zeroCells57.size=156:=by kernel_rfl
theorem zeroCells57_ne:zeroCells57≠#[]:=fun h=>by have:=da;rw [h] at this;cases this
def zeroCells80:Array Value:=Array.replicate 154 (.int .i32 0)
theorem zeroValue80:∀ w:World,Sem.run Try.prog (Go.zeroValue 80) w=.ok (.agg zeroCells80) w:=fun w=>by kernel_rfl
theorem db:zeroCells80.size=154:=by kernel_rfl
theorem zeroCells80_ne:zeroCells80≠#[]:=fun h=>by have:=db;rw [h] at this;cases this
def zeroCells67:Array Value:=Array.replicate 218 (.int .i32 0)
theorem zeroValue67:∀ w:World,Sem.run Try.prog (Go.zeroValue 67) w=.ok (.agg zeroCells67) w:=fun w=>by kernel_rfl
theorem dc:zeroCells67.size=218:=by kernel_rfl
theorem zeroCells67_ne:zeroCells67≠#[]:=fun h=>by have:=dc;rw [h] at this;cases this
end Go.Proofs.Try
