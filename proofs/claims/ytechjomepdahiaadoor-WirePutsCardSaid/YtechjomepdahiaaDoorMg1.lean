import Derived.Test.YtechjomepdahiaaDoorZ0
import Derived.Handy
import Derived.Laws.BytesArg
import Derived.Laws.AppendOwnNone
import Derived.Lib.Hide
import Derived.Deep.QuietTactic
import Derived.BigQuiet
import Derived.OpenShut
import Derived.Deep.RegionWith
import Derived.WalkSpells
import Derived.Test.YtechjomepdahiaaDoorProg
import Derived.Lib.LazyBuf
import Derived.Carry
import Derived.LaidMore
import Derived.LaidHandle
import Derived.Stop.Joined
import Derived.StillTail
import Derived.Below
import Derived.Laws.Tables
import Derived.Laws.Rows
import Derived.Deep.WholeRow
import Derived.Laws.AppendOwn
import Derived.OneCell
import Derived.Laws.OwnMore
import Derived.Deep.Slices
import Derived.Deep.Strs
import Derived.KernelRfl
import Derived.Deep.MidRow
import Derived.RangeFuncNested
import Derived.RangeFuncBound
import Derived.RangeFuncCalls
import Derived.RangeFuncLeaves
import Derived.WalkKit
import Derived.OwnWalkIn
import Derived.TacticsInMore
import Derived.LoopNIn
import Derived.LoopIn
import Derived.Shelf.Abstract
import Derived.Shelf.RegionOpen
import Derived.Deep.LoopGhost
import Derived.Lib.SmallJoins
import Derived.Laws.StructEq
import Derived.Sort.CutIn
set_option maxRecDepth 100000
set_option linter.unusedVariables false
set_option linter.unusedSimpArgs false
set_option maxHeartbeats 1000000
namespace Go.Proofs.YtechjomepdahiaaDoor
open Go.RowKit Go.ChangeShapes Go.WideShapes
theorem aq{a b:Value}(h:a=b):Ending.returned a=.returned b:=by rw [h]
def Held(k:IntKind)(w:World)(v:Value)(xs:List Int):Prop :=
 ∃ ao cap,v=.slice ao xs.length cap/\(ao=none->xs=[]/\cap=0)/\∀ i,i<xs.length->∃ b off,ao=some ⟨b,off,none⟩/\b<w.heap.size/\w.cell? ⟨b,off+i,none⟩=some (.int k (xs.getD i 0))
theorem Held.nil(k:IntKind)(w:World):Held k w (.slice none 0 0) []:=⟨none,0,rfl,fun _=>⟨rfl,rfl⟩,fun i hi=>by simp at hi⟩
theorem gi{k:IntKind}{w:World}{b off cap:Nat}{xs:List Int}(hlt:b<w.heap.size)(hc:∀ i,i<xs.length->w.cell? ⟨b,off+i,none⟩=some (.int k (xs.getD i 0))):Held k w (.slice (some ⟨b,off,none⟩) xs.length cap) xs :=
 ⟨_,cap,rfl,(fun h=>by cases h),fun i hi=>⟨b,off,rfl,hlt,hc i hi⟩⟩
theorem Held.below{k:IntKind}{w w':World}{v:Value}{xs:List Int}(h:Held k w v xs)(hb:Below w.heap.size w w'):Held k w' v xs:=by
 obtain ⟨ao,cap,rfl,hn,hc⟩:=h;refine ⟨ao,cap,rfl,hn,fun i hi=>?_⟩;obtain ⟨b,off,rfl,hlt,hcell⟩:=hc i hi;exact ⟨b,off,rfl,by have:=hb.size;omega,(hb.cell (p:=⟨b,off+i,none⟩) hlt).trans hcell⟩
theorem Held.len{k:IntKind}{w:World}{v:Value}{xs:List Int}(h:Held k w v xs):∃ ao cap,v=.slice ao xs.length cap:=by
 obtain ⟨ao,cap,rfl,_⟩:=h;exact ⟨ao,cap,rfl⟩
theorem Held.view{k:IntKind}{w:World}{v:Value}{xs:List Int}(h:Held k w v xs) :
  ∃ ao cap,v=.slice ao xs.length cap/\∀ i,i<xs.length->∃ b off,ao=some ⟨b,off,none⟩/\b<w.heap.size/\w.cell? ⟨b,off+i,none⟩=some (.int k (xs.getD i 0)):=by
 obtain ⟨ao,cap,rfl,_,hc⟩:=h;exact ⟨ao,cap,rfl,hc⟩
theorem Held.spots{k:IntKind}{w:World}{ao:Option Addr}{n cap:Nat}{xs:List Int}(h:Held k w (.slice ao n cap) xs) :
  ∀ i,i<xs.length->∃ b off,ao=some ⟨b,off,none⟩/\b<w.heap.size/\w.cell? ⟨b,off+i,none⟩=some (.int k (xs.getD i 0)):=by
 obtain ⟨ao',cap',he,_,hc⟩:=h
 cases he
 exact hc
theorem gj{k:IntKind}{w:World}{B e:Nat}{v:Value}{n:Nat}{xs:List Int}(h:w.ownsRow B e 1 v n (xs.map (Value.int k))):Held k w v xs:=by
 have hl:xs.length=n:=by have:=h.1;simpa using this
 subst hl
 rcases h.2 with ⟨rfl,hn⟩ | ⟨g,cap,cur,rfl,hb,hg,h1,h2,h3,h4⟩
 ·have:xs=[]:=List.eq_nil_of_length_eq_zero hn;subst this;exact Held.nil k w
 ·refine gi (Array.getElem?_eq_some_iff.1 hg).1 fun i hi=>?_
  have:=h.cells (g:=g) rfl i (.int k (xs.getD i 0)) (by simp [List.getElem?_eq_getElem hi]);rw [Addr.add_lit] at this
  simpa using this
theorem bI{w w':World}{B e size:Nat}{v:Value}{n:Nat}{xs:List Value}(h:w.ownsRow B e size v n xs)(hb:Below w.heap.size w w'):w'.ownsRow B e size v n xs:=by
 refine ⟨h.1,?_⟩
 rcases h.2 with hn | ⟨g,cap,cur,rfl,hB,hg,rest⟩
 ·exact .inl hn
 ·exact .inr ⟨g,cap,cur,rfl,hB,(hb.block g (Array.getElem?_eq_some_iff.1 hg).1).trans hg,rest⟩
theorem jA(n:Int)(h0:0<=n):bits .and .i32 n 63=n % 64:=by
 have h127:(BitVec.ofInt 32 63).toNat=2 ^ 6 - 1:=by decide
 have key:(BitVec.ofInt 32 n &&& BitVec.ofInt 32 63).toNat=(n % ((2 ^ 32:Nat):Int)).toNat % 2 ^ 6:=by
  rw [BitVec.toNat_and,BitVec.toNat_ofInt,h127,Nat.and_two_pow_sub_one_eq_mod]
 show IntKind.i32.wrap ((BitVec.ofInt 32 n &&& BitVec.ofInt 32 63).toNat:Nat)=n % 64;rw [key,IntKind.wrap_i32];omega
theorem dM(c x:Int)(i:Nat)(hc:c.toNat % 2 ^ i=0)(h0:0<=c)(h1:c<256)(h2:0<=x)(h3:x<256)(hx:x.toNat<2 ^ i):bits .or .u8 c x=c+x:=by
 rw [u8_or c x h0 h1 h2 h3,nat_join i _ _ hc hx];omega
theorem eh(w:World)(C:List Value)(t:TypeId):∀ j u,C[j]? = some u->(w.alloc (.cells C.toArray t)).cell? ((⟨w.heap.size,0,none⟩ : Addr).add j)=some u:=by
 intro j u hj;rw [Addr.add_lit,cell_of_row (w.alloc (.cells C.toArray t)) w.heap.size (0+j) C.toArray t (0,0) (heap_alloc_new w _)]
 simpa using hj
theorem aV{P:Program}(w0:World){ops:Array Oper}{rest:List Oper}{o:Oper}{a:Act}{Q:Exit->Act->World->Prop}(hgd:o.guard=none)(s x:Operand)(t:TypeId)
  (ho:o.op=.call { callee:=.builtin .append,args:=#[s,x],argTypes:=#[t,t] })
  (base:Nat) (e:TypeId) (z:Value) (bytes:Nat) (ht:P.underlying t=some (.slice e)) (mX:(P.info? e).map (fun i=>(i.zero,i.size,i.bytes))=some (some z,1,bytes)) (hzs:z.cells.size=1)
  (v:Value) (n:Nat) (xs:List Value) (hs:a.eval s=v) (hown:w0.ownsRow base e 1 v n xs)
  (C:List Value) (m c:Nat) (hx:a.eval x=.slice (some ⟨w0.heap.size,0,none⟩) m c) (hl:C.length=m) (h1:∀ u ∈ C,u.oneCell'=true)
  (hbytes:(n+m) * bytes<=140737488355328) (hb0:n+m<=140737488355328) (hbase:base<=w0.heap.size)
  (h:∀ v' w',w'.ownsRow base e 1 v' (n+m) (xs++C)->Below base w0 w'->wpList P ops Q rest (a.put o.dst v') w') :
  wpList P ops Q (o :: rest) a (w0.alloc (.cells C.toArray e)):=by
 obtain ⟨i0,hi,hz0,hz1,hz2⟩:=info_parts mX;refine wpList_append_own _ hgd s x t ho base e i0 z 1 bytes ht hi hz0 hz1 hz2 hzs (by decide) v n xs hs (hown.alloc _) ⟨w0.heap.size,0,none⟩ m c C hx (by omega) (eh w0 C e) h1 (by unfold maxLen;omega) hbytes (by simp;omega) ?_;intro v' w' hown' hgrow _;refine h v' w' hown' (((Below.refl base w0).alloc hbase _).grown hgrow (by simp;omega) fun k hk=>((hown.alloc (.cells C.toArray e)).lt k hk).1)
theorem dN(k:IntKind)(w:World)(C:List Value)(t:TypeId)(n cap:Nat)(xs:List Int)(hC:C=xs.map (Value.int k))(hn:xs.length=n):Held k (w.alloc (.cells C.toArray t)) (.slice (some ⟨w.heap.size,0,none⟩) n cap) xs:=by
 subst hC hn;refine gi (by simp) fun i hi=>?_
 have:=eh w (xs.map (Value.int k)) t i (.int k (xs.getD i 0)) (by simp [List.getElem?_eq_getElem hi]);rw [Addr.add_lit] at this;exact this
theorem cC{P:Program}{w:World}{v:Value}{xs:List Int}(h:Held .u8 w v xs)(src e dst:TypeId)(hs:P.underlying src=some (.slice e))(he:P.underlying e=some (.int .u8))(hd:P.underlying dst=some .string) :
  (convert src dst v).run P w=.ok (.string (strOfNums xs)) w:=by
 obtain ⟨ao,cap,rfl,hn,hc⟩:=h
 cases xs with
 |nil =>
  cases ao with
  |none=>exact run_convert_bytes_nil w src e hs he 0 cap dst hd
  |some a =>
   have:=run_bytesToString (P:=P) w a 0 cap [] (by simp [loadCells,loadCellsFrom]);rw [List.length_nil,run_convert_bytes_string w src dst e _ 0 cap hs he hd,this]
   rfl
 |cons x xs =>
  obtain ⟨b,off,rfl,_,_⟩:=hc 0 (by simp);refine run_convert_bytes_arg w src e hs he b off (x :: xs).length cap (x :: xs) rfl (fun i hi=>?_) dst hd;obtain ⟨b',off',e1,_,h1⟩:=hc i hi
  cases e1
  exact h1
theorem dB{P:Program}(w:World){ops:Array Oper}{rest:List Oper}{o:Oper}{a:Act}{Q:Exit->Act->World->Prop}(hgd:o.guard=none)(s x:Operand)(t:TypeId)
  (ho:o.op=.call { callee:=.builtin .append,args:=#[s,x],argTypes:=#[t,t] })
  (base:Nat) (e:TypeId) (z:Value) (bytes:Nat) (ht:P.underlying t=some (.slice e)) (mX:(P.info? e).map (fun i=>(i.zero,i.size,i.bytes))=some (some z,1,bytes)) (hzs:z.cells.size=1)
  (k:IntKind) (v:Value) (n:Nat) (xs:List Int) (hs:a.eval s=v) (hown:w.ownsRow base e 1 v n (xs.map (Value.int k)))
  (u:Value) (ys:List Int) (hx:a.eval x=u) (hu:Held k w u ys)
  (hbytes:(n+ys.length) * bytes<=140737488355328) (hb0:n+ys.length<=140737488355328) (hbase:base<=w.heap.size)
  (h:∀ v' w',w'.ownsRow base e 1 v' (n+ys.length) ((xs++ys).map (Value.int k))->Below base w w'->wpList P ops Q rest (a.put o.dst v') w') :
  wpList P ops Q (o :: rest) a w:=by
 obtain ⟨i0,hi,hz0,hz1,hz2⟩:=info_parts mX;obtain ⟨ao,cap,rfl,hn,hc⟩:=hu
 cases ao with
 |none =>
  obtain ⟨rfl,rfl⟩:=hn rfl;exact wpList_append_own_none hgd s x t ho base e i0 1 ht hi v n _ hs hown hx (h v w (by simpa using hown) (Below.refl _ _))
 |some ad =>
  refine wpList_append_own _ hgd s x t ho base e i0 z 1 bytes ht hi hz0 hz1 hz2 hzs (by decide) v n _ hs hown ad ys.length cap (ys.map (Value.int k)) hx (by simp) ?_ (ints_oneCell k ys) (by unfold maxLen;omega) hbytes hbase ?_
  ·intro j y hj;have tZ:j<ys.length:=by
    rcases Nat.lt_or_ge j ys.length with h | h
    ·exact h
    ·simp [List.getElem?_eq_none (show (ys.map (Value.int k)).length<=j by simpa using h)] at hj
   obtain ⟨b,off,e1,_,h1⟩:=hc j tZ
   cases e1
   rw [Addr.add_lit,h1]
   simp [List.getElem?_eq_getElem tZ] at hj
   subst hj
   simp [List.getD,List.getElem?_eq_getElem tZ]
  ·intro v' w' hown' hgrow _;exact h v' w' (by simpa using hown') ((Below.refl base w).grown hgrow hbase fun j hj=>(hown.lt j hj).1)
def l3(k:IntKind)(w:World)(xs:List Int)(e:Ending)(w':World):Prop:=∃ v',e=.returned v'/\Held k w' v' xs/\Below w.heap.size w w'
def Gives(w:World)(v:Value)(e:Ending)(w':World):Prop:=e=.returned v/\Below w.heap.size w w'
theorem _root_.Go.RowKit.Below.drewN{B:Nat}{w w':World}(h:Below B w w')(n:Nat):Below B w (w'.drewN n):=⟨h.os,h.tape,h.output,h.size,h.block⟩
theorem fJ(a:Nat)(h:a<4294967296):(BitVec.ofInt 32 (a:Int)).toNat=a:=by
 rw [BitVec.toNat_ofInt];omega
theorem kx(a x:Int)(h0:0<=a)(h1:a<1073741824)(ha:a % 64=0)(x0:0<=x)(x1:x<64):bits .or .i32 a x=a+x:=by
 obtain ⟨A,rfl⟩:=Int.eq_ofNat_of_zero_le h0;obtain ⟨X,rfl⟩:=Int.eq_ofNat_of_zero_le x0;show IntKind.i32.wrap ((BitVec.ofInt 32 (A:Int) ||| BitVec.ofInt 32 (X:Int)).toNat:Int)=_;rw [BitVec.toNat_or,fJ A (by omega),fJ X (by omega),nat_join 6 A X (by omega) (by omega),IntKind.wrap_i32];omega
theorem ky(x:Int)(x0:0<=x)(x1:x<=255):bits .and .u8 x 63=x % 64:=by
 rw [u8_and x 63 x0 (by omega) (by decide) (by decide)];have:x.toNat &&& (63:Int).toNat=x.toNat % 2 ^ 6:=Nat.and_two_pow_sub_one_eq_mod x.toNat 6;rw [this];omega
def Fresh(B:Nat)(v:Value):Prop:=∀ a n c,v=.slice (some a) n c->B<=a.block
theorem Fresh.nil(B:Nat)(n c:Nat):Fresh B (.slice none n c):=fun a _ _ h=>by cases h
theorem Fresh.at_(B g off n c:Nat)(h:B<=g):Fresh B (.slice (some ⟨g,off,none⟩) n c):=fun a _ _ e=>by cases e;exact h
theorem Fresh.mono{B B':Nat}{v:Value}(h:Fresh B v)(hb:B'<=B):Fresh B' v:=fun a n c e=>Nat.le_trans hb (h a n c e)
def dp(k:IntKind)(w:World)(xs:List Int)(e:Ending)(w':World):Prop:=∃ v',e=.returned v'/\Held k w' v' xs/\Below w.heap.size w w'/\Fresh w.heap.size v'
end Go.Proofs.YtechjomepdahiaaDoor
namespace Go.Proofs.YtechjomepdahiaaDoor
end Go.Proofs.YtechjomepdahiaaDoor
namespace Go.Proofs.YtechjomepdahiaaDoor
open Go.RowKit Go.ChangeShapes Go.WideShapes
def aE(n:Int):Int:=if n<1 then 1 else if 1024<n then 1024 else n
theorem ey(n:Int):(n<1/\aE n=1)\/(1<=n/\n<=1024/\aE n=n)\/(1024<n/\aE n=1024):=by unfold aE;omega
theorem cK(n:Int):1<=aE n/\aE n<=1024:=by unfold aE;omega
theorem ie(n:Int)(w:World):Calls Tryd.prog 86 #[.int .i64 n] w fun e w'=>e=.returned (.int .i64 (aE n))/\w=w':=by
 rcases ey n with ⟨h2,hs⟩ | ⟨h2,h3,hs⟩ | ⟨h2,hs⟩
 all_goals
  rw [hs];clear hs
  go_enter Tryd.func86,Tryd.ntmps86
  go_wp2;go_ret;exact ⟨ae,rfl⟩
section
open Go.ChangeShapes Go.WideShapes Go.ChangeAt Go.RowKit
def Yes(w:World)(e:Ending)(w':World):Prop:=e=.returned (.bool true)/\Below w.heap.size w w'
section
variable {H : Type} {enc : TypeId × Value → H} {P : Program}
theorem fq{W W':World}(hl:laidOutB P=true)(hb:Below W.heap.size W W'):∀ (ts:List TypeId) (vs:List Value) (ds:List (DataW H)) (ps:List MemPlace),
  (∀ t ∈ ts,P.readableRec t=true/\t<P.types.size)->(∀ x ∈ ps,x.block<W.heap.size)->DataW.TrodAll enc P W 0 (fun _=>true) true ts vs ds ps->DataW.TrodAll enc P W' 0 (fun b=>decide (b<W.heap.size)) true ts vs ds ps:=by
 intro ts
 induction ts with
 |nil =>
  intro vs ds ps _ _ h;obtain ⟨rfl,rfl,rfl⟩:=trodAll_nil h;exact trodAll_mk0
 |cons t ts ih =>
  intro vs ds ps hr hlt h;obtain ⟨v,vs',d,ds',p,q,rfl,rfl,rfl,h0,h1⟩:=trodAll_cons h;exact trodAll_cons_mk (Below.trod hl (hr t (by simp)).1 (hr t (by simp)).2 h0 hb (fun x hx=>hlt x (by simp [hx])))
   (ih vs' ds' q (fun u hu=>hr u (by simp [hu])) (fun x hx=>hlt x (by simp [hx])) h1)
theorem ff{w:World}{b:Nat}{sp:Nat->Bool}{hd:Bool}:∀ (ts:List TypeId) (vs:List Value) (ds:List (DataW H)) (ps:List MemPlace),DataW.TrodAll enc P w b sp hd ts vs ds ps->ds.length=ts.length:=by
 intro ts
 induction ts with
 |nil =>
  intro vs ds ps h;obtain ⟨rfl,rfl,rfl⟩:=trodAll_nil h
  rfl
 |cons t ts ih =>
  intro vs ds ps h;obtain ⟨v,vs',d,ds',p,q,rfl,rfl,rfl,_,h1⟩:=trodAll_cons h
  simp [ih vs' ds' q h1]
end
theorem j2{H:Type}{enc:TypeId × Value->H}{C:Checked}{os:Os}{f:FuncId}{fn:Func}{s:ChangeSpec}{laid:List (String × DataW Unit)}{tb:TypeId}
  (own:ownKnob C.prog.godebug=none) (started:os.Started) (noInit:C.prog.inits.idxOf? f=none) (hfn:C.prog.funcs[f]? = some fn)
  (hl:laidOutB C.prog=true) (hres:fn.resultTypes=#[tb]) (hbool:C.prog.underlying tb=some .bool) (hvars:s.vars=[])
  (hread:∀ t ∈ fn.params.toList,C.prog.readableRec t=true/\t<C.prog.types.size)
  (hspec:∀ ds:List (DataW H),ds.length=fn.params.size->s.fn H ds={ results:=[.lit (.bool true)],args:=ds })
  (witness:∃ (w:World) (tape:Tape) (i:Input),w.os=os/\(w.forCall tape i).Shaped C.prog/\i.vars=[]/\Input.okWide C.prog (w.forCall tape i) .any w.heap.size f i /\
   ((s.pre enc C.prog fn [] false (w.forCall tape i).memory i.args/\laidMetH C.prog laid (w.forCall tape i).memory)/\sizedMet enc C.prog fn (OpenSpec.ofChange s) false (w.forCall tape i).memory i.args)/\({}:Assume).holds C.prog (lone (Frame.enter C.prog f i.args .normal) [] (w.forCall tape i)))
  (walk:∀ (W:World) (base:Nat) (args:Array Value) (ds:List (DataW H)) (before:List MemPlace),
   (∀ (j:Nat) t v,fn.params[j]? = some t->args[j]? = some v->Value.okWide C.prog W .any base t v) ->
   DataW.TrodAll enc C.prog W 0 (fun _=>true) true fn.params.toList args.toList ds before ->
   (DataW.weightsEach C.prog (fn.params.toList++s.plain.varTypes C.prog) (ds++[])).all (· <= reachBytes)=true->laidMetH C.prog laid W->Calls C.prog f args W (Yes W)) :
  ReturnsInHanded {} C os f .any (fun w args=>(s.pre enc C.prog fn [] false w args/\laidMetH C.prog laid w)/\sizedMet enc C.prog fn (OpenSpec.ofChange s) false w args) (s.post enc C.prog fn false true false false):=by
 refine returnsInHanded_of_change_and (C:=C) (X:=fun w _=>laidMetH C.prog laid w) (fun _ _ _ hh h=>h.of_heap hh) own started noInit hfn witness ?_;intro W base args ds gs before hval hW _ hsz hL _;have hW':=hW;obtain ⟨p,q,hA,hV,rfl,hfz,oZ⟩:=hW;rw [hvars] at hV;obtain ⟨rfl,rfl⟩:=trodVars_none hV;refine (walk W base args ds p hval hA hsz hL).mono fun e W' he=>?_
 obtain ⟨rfl,hb⟩:=he;have hlt:∀ x ∈ p,x.block<W.heap.size:=fun x hx=>hW'.lt x (by simpa using hx)
 have e1:s.fn H (ds++[])={ results:=[.lit (.bool true)],args:=ds }:=by
  rw [List.append_nil];exact hspec ds (by simpa using ff _ _ _ _ hA)
 refine ⟨_,rfl,ds,[],p++[],[],p,[],hW',?_,?_,?_,hb.frame _,fun h=>by cases h⟩
 ·rw [e1,hres];exact trodAll_mk1 (shut_bool hbool true)
 ·rw [e1];exact fq hl hb _ _ _ _ hread hlt hA
 ·rw [e1,hvars]
  rfl
end
section
open Go Go.RowKit
def cI(l:List Oper)(n:Nat):Bool :=
 (List.range n).all fun i=>match l[i]? with
  |some o=>(o.after.all fun e=>!Region.binds .any e || decide (e.on<i)) && (match o.guard with
   | none=>true
   | some (j,_)=>decide (j<n))
  |none=>false
theorem eV{l:List Oper}{n i:Nat}{o:Oper}(h:cI l n=true)(hi:i<n)(ho:l[i]? = some o) :
  (∀ e ∈ o.after,Region.binds .any e=true->e.on<i)/\∀ j b,o.guard=some (j,b)->j<n:=by
 have h1:=List.all_eq_true.1 h i (List.mem_range.2 hi);rw [ho] at h1;simp only [Bool.and_eq_true] at h1;refine ⟨fun e he hb=>?_,fun j b hg=>?_⟩
 ·have:=Array.all_eq_true'.1 h1.1 e he
  simpa [hb] using this
 ·have:=h1.2;rw [hg] at this
  simpa using this
theorem gn{l:List Oper}{n i:Nat}(hi:i<n):(l.take n)[i]? = l[i]?:=by
 rw [List.getElem?_take,if_pos hi]
theorem g9{l:List Oper}{n i:Nat}{o:Oper}(h:cI l n=true)(hi:i<n)(ho:l[i]? = some o)(tmps:Array Value) :
  Region.wanted o (yielded (l.take n).toArray tmps)=Region.wanted o (yielded l.toArray tmps):=by
 unfold Region.wanted
 cases hg:o.guard with
 |none=>rfl
 |some jb =>
  obtain ⟨j,b⟩:=jb;have hj:=(eV h hi ho).2 j b hg;have e:yielded (l.take n).toArray tmps j=yielded l.toArray tmps j:=by
   unfold yielded;simp only [List.getElem?_toArray];rw [gn hj]
  simp only [e]
def aT(n:Nat)(listed:Array Bool):Nat:=((List.range n).filter fun i=>!listed.getD i true).length
theorem bJ{n:Nat}{listed:Array Bool}(h:aT n listed=0):∀ i,i<n->listed.getD i true=true:=by
 intro i hi
 cases hl:listed.getD i true with
 |true=>rfl
 |false =>
  have:i ∈ (List.range n).filter fun i=>!listed.getD i true:=List.mem_filter.2 ⟨List.mem_range.2 hi,by simp [hl]⟩
  rw [List.length_eq_zero_iff.1 h] at this
  cases this
theorem gq{n:Nat}{listed:Array Bool}(h:0<aT n listed):∃ i,i<n/\listed.getD i true=false/\∀ j,j<i->listed.getD j true=true:=by
 obtain ⟨i,hi⟩:=List.exists_mem_of_length_pos h;obtain ⟨h1,h2⟩:=List.mem_filter.1 hi;have h3:i<n/\listed.getD i true=false:=⟨List.mem_range.1 h1,by simpa using h2⟩;clear hi h1 h2 h
 induction i using Nat.strongRecOn with
 |_ i ih =>
  by_cases hex:∃ j,j<i/\listed.getD j true=false
  ·obtain ⟨j,hj,hf⟩:=hex;exact ih j hj ⟨by omega,hf⟩
  ·refine ⟨i,h3.1,h3.2,fun j hj=>?_⟩
   cases hl:listed.getD j true with
   | true=>rfl
   | false=>exact absurd ⟨j,hj,hl⟩ hex
theorem cS{α:Type}(p q:α->Bool)(x:α):∀ (l:List α),l.Nodup->x ∈ l->p x=true->q x=false->(∀ y,y≠x->q y=p y)->(l.filter q).length+1=(l.filter p).length
 |[],_,hx,_,_,_=>by cases hx
 |y :: l,oZ,hx,hp,hq,hs=>by
  obtain ⟨hy,hnd'⟩:=List.nodup_cons.1 oZ
  by_cases he:y=x
  ·subst he;have:l.filter q=l.filter p:=List.filter_congr fun z hz=>hs z (fun e=>hy (e ▸ hz))
   rw [List.filter_cons_of_neg (by simp [hq]),List.filter_cons_of_pos hp,this]
   simp
  ·have hx':x ∈ l:=by
    rcases List.mem_cons.1 hx with h | h
    ·exact absurd h.symm he
    ·exact h
   have:=cS p q x l hnd' hx' hp hq hs;rw [List.filter_cons,List.filter_cons,hs y he]
   split
   ·rw [List.length_cons,List.length_cons];omega
   ·exact this
theorem bU{n i:Nat}{listed:Array Bool}(hsz:listed.size=n)(hi:i<n)(hu:listed.getD i true=false):aT n (listed.setIfInBounds i true)+1=aT n listed:=by
 unfold aT;refine cS _ _ i _ List.nodup_range (List.mem_range.2 hi) (by simp [hu]) ?_ ?_
 ·have:(listed.setIfInBounds i true).getD i true=true:=by
   rw [Array.getD_eq_getD_getElem?,Array.getElem?_setIfInBounds_self_of_lt (by omega)]
   rfl
  rw [this];rfl
 ·intro y hy;rw [getD_set_ne true (by omega)]
theorem bO{listed:Array Bool}{i:Nat}(h:i<listed.size):listed.getD i false=listed.getD i true:=by
 rw [Array.getD_eq_getD_getElem?,Array.getD_eq_getD_getElem?,Array.getElem?_eq_getElem h]
 rfl
section
variable {P : Program} {l : List Oper} {n : Nat} {C : World → Prop}
theorem iK(l9:cI l n=true){listed₀ listed:Array Bool}(mz:∀ i,i<n->listed.getD i true=listed₀.getD i true)(hs0:listed₀.size=n)(hs:listed.size=l.length)(hn:n<l.length){i:Nat}(hi:i<n)
  (hr:i ∈ Region.ready .any l.toArray listed):i ∈ Region.ready .any (l.take n).toArray listed₀:=by
 obtain ⟨h1,o,ho,hall⟩:=mem_ready.1 hr;have mn:l[i]? = some o:=by simpa using ho
 refine mem_ready.2 ⟨(mz i hi).symm.trans h1,o,by simpa [gn hi] using mn,fun e he hb=>?_⟩;have hlt:=(eV l9 hi mn).1 e he hb;have h2:=hall e he hb;have h3:=mz e.on (by omega);rw [bO (by omega)] at h2 ⊢;rw [<-h3];exact h2
theorem iL(l9:cI l n=true){listed:Array Bool}(hs:listed.size=l.length)(hn:n<l.length){i:Nat}(hi:i<n)(hu:listed.getD i true=false)(hb:∀ j,j<i->listed.getD j true=true) :
  i ∈ Region.ready .any l.toArray listed:=by
 have hl:l[i]? = some l[i]:=List.getElem?_eq_getElem (by omega);refine mem_ready.2 ⟨hu,l[i],by simp,fun e he hbi=>?_⟩;have hlt:=(eV l9 hi hl).1 e he hbi;have:=hb e.on hlt;rw [Array.getD_eq_getD_getElem?,Array.getElem?_eq_getElem (by omega)] at this ⊢;exact this
theorem kJ(l9:cI l n=true){i:Nat}(hi:i<n){K:Act->Prop}{a:Act}(h:qOp P (l.take n).toArray C i K a):qOp P l.toArray C i K a:=by
 unfold qOp at *;simp only [List.getElem?_toArray] at *;rw [gn hi] at h
 cases ho:l[i]? with
 |none=>rw [ho] at h;exact h
 |some o =>
  rw [ho] at h;simp only at h ⊢;rw [g9 l9 hi ho] at h;exact h
def ar(l:List Oper)(n:Nat):Array Bool:=((List.range l.length).map fun i=>decide (i<n)).toArray
theorem hP{listed:Array Bool}(hs:listed.size=l.length)(hd:∀ i,i<n->listed.getD i true=true)(inv:HeadInv .any l.toArray n listed):listed=ar l n:=by
 apply Array.ext
 ·simp [ar,hs]
 ·intro i h1 h2;have h3:(ar l n)[i]=decide (i<n):=by simp [ar]
  rw [h3]
  by_cases hi:i<n
  ·have:=hd i hi;rw [Array.getD_eq_getD_getElem?,Array.getElem?_eq_getElem h1] at this;rw [decide_eq_true hi];exact this
  ·have:=inv.tail i (by omega) (by simp;omega);rw [Array.getD_eq_getD_getElem?,Array.getElem?_eq_getElem h1] at this;rw [decide_eq_false hi];exact this
theorem hS{g:Nat}{Q':Exit->Act->World->Prop}{T:Act->Prop}(hn:n<l.length)(l9:cI l n=true)(hs:Region.sinkB .any l.toArray n=true)(hc:Region.chainB .any l.toArray n=true)
  (hT:∀ a w,C w->T a->wpAny P .any l.toArray Q' g (ar l n) a w) :
  ∀ (f:Nat) (listed₀ listed:Array Bool) (a:Act) (w:World),C w->HeadInv .any l.toArray n listed->listed₀.size=n->(∀ i,i<n->listed.getD i true=listed₀.getD i true)->aT n listed₀=f ->
   wpAnyQ P .any (l.take n).toArray C T f listed₀ a->wpAny P .any l.toArray Q' (f+g) listed a w:=by
 intro f
 induction f with
 |zero =>
  intro listed₀ listed a w hw inv hs0 mz hu h;have hsz:listed.size=l.length:=by simpa using inv.size
  rw [Nat.zero_add,hP hsz (fun i hi=>(mz i hi).trans (bJ hu i hi)) inv];exact hT a w hw h.2
 |succ f ih =>
  intro listed₀ listed a w hw inv hs0 mz hu h;have hsz:listed.size=l.length:=by simpa using inv.size
  obtain ⟨m,hm,hmu,wW⟩:=gq (n:=n) (listed:=listed₀) (by omega);have hmr:=iL l9 hsz hn hm ((mz m hm).trans hmu) (fun j hj=>(mz j (by omega)).trans (wW j hj));rw [show f+1+g=(f+g)+1 by omega];refine ⟨(fun h0=>by rw [h0] at hmr;cases hmr),fun i hi=>?_⟩;have mS:i<n:=by
   rcases Nat.lt_or_ge i n with h' | h'
   ·exact h'
   ·exact absurd hi (tail_waits hs hc (by simpa using hn) inv _ m rfl hm ((mz m hm).trans hmu) i h')
  have xr:=iK l9 mz hs0 hsz hn mS hi;have hq:=kJ l9 mS (h.2 i xr);refine wpOp_of_qOp hw (fun a' w' hw' hK=>ih _ _ a' w' hw' (inv.set hi mS) (by simpa using hs0) (fun j hj=>?_) ?_ hK) hq
  ·by_cases oc:i=j
   ·subst oc;rw [Array.getD_eq_getD_getElem?,Array.getD_eq_getD_getElem?,Array.getElem?_setIfInBounds_self_of_lt (by omega),Array.getElem?_setIfInBounds_self_of_lt (by omega)]
   ·rw [getD_set_ne true oc,getD_set_ne true oc];exact mz j hj
  ·have:=bU hs0 mS ((mz i mS).symm.trans (mem_ready.1 hi).1);omega
theorem eW{id:Nat}{Q:Exit->Act->World->Prop}{a:Act}{w:World}(n:Nat)(hm:P.follows .mixedOrders=true)(hn:n<l.length)(hB:Region.lexB .any (l.take n).toArray=true)(l9:cI l n=true)
  (hs:Region.sinkB .any l.toArray n=true) (hc:Region.chainB .any l.toArray n=true) (hseq:Region.seqB .any l.toArray (l.length - n) n (ar l n)=true) (hC:C { w with drawn:=w.drawn+1 })
  (h:wpQuiet P (l.take n).toArray C (fun a'=>∀ w',C w'->wpList P l.toArray Q (l.drop n) a' w') (l.take n) a):(Code.region id l.toArray true).wp P Q a w:=by
 simp only [Region.lexB,Bool.and_eq_true] at hB;have rU:(l.take n).length=n:=by simp;omega
 have rM:(l.drop n).length=l.length - n:=by simp
 have H:=wpAnyQ_lex (C:=C) (md:=.any) hB.1 (l.take n) 0 (Array.replicate (l.take n).toArray.size false) a (by simp) (by simpa using hB.2) h;have inv0:HeadInv .any l.toArray n (Array.replicate l.toArray.size false) :=
  ⟨by simp,fun j oj _ hl=>(by rw [getD_replicate_false] at hl;cases hl),fun t _ ht=>getD_in (by simpa using ht) (getD_replicate_false _ _)⟩
 refine wp_region_any hm ?_;have:=hS (C:=C) (Q':=Q) (g:=l.length - n) hn l9 hs hc (fun a' w' hw' hT=>by
  have:=wpAny_of_seq (md:=.any) (Q':=Q) (l.drop n) n (ar l n) a' w' (fun j=>by simp [List.getElem?_drop]) (by rw [rM];exact hseq) (hT w' hw')
  rwa [rM] at this) (l.take n).length (Array.replicate (l.take n).toArray.size false) (Array.replicate l.toArray.size false) a _ hC inv0 (by simp;omega) (fun i hi=>by
   rw [getD_in (by simpa using (by omega:i<l.length)) (getD_replicate_false _ _),getD_in (by simp;omega) (getD_replicate_false _ _)]) (by
   unfold aT;rw [List.filter_eq_self.2 (fun i hi=>by
    have:=List.mem_range.1 hi;rw [getD_in (by simp;omega) (getD_replicate_false _ _)];rfl),List.length_range]
   omega) H
 rw [rU,show n+(l.length - n)=l.toArray.size by simp;omega] at this;exact this
end
structure Growth (w:World) where
 tz9:World
 ok:Below w.heap.size w tz9
instance (w:World):Nonempty (Growth w):=⟨⟨w,Below.refl _ _⟩⟩
def ext(w:World)(u:Growth w):World:=u.tz9
theorem ay{w:World}{a:Addr}{v:Value}(h:w.cell? a=some v)(u:Growth w):(ext w u).cell? a=some v :=
 (u.ok.cell (World.block_lt_of_cell? w a h)).trans h
theorem eX{w:World}{a:Addr}{b:Bool}(hl:a.block<w.heap.size)(h:w.frozen? a=b)(u:Growth w):(ext w u).frozen? a=b :=
 (u.ok.frozen (p:=a) hl).trans h
theorem eY{P:Program}{f:FuncId}{args:Array Value}{w:World}{u:Growth w}{v:Value}
  (h:Calls P f args (ext w u) fun e w'=>e=.returned v/\Below (ext w u).heap.size (ext w u) w'):Calls P f args (ext w u) fun e w''=>e=.returned v/\∃ u',w''=ext w u' :=
 h.mono fun _ w' ⟨he,hb⟩=>⟨he,⟨w',u.ok.trans (hb.mono u.ok.size)⟩,rfl⟩
theorem dD{P:Program}{f:FuncId}{args:Array Value}{w:World}{u:Growth w}{v:Value}
  (h:Calls P f args (ext w u) fun e w'=>e=.returned v/\ext w u=w'):Calls P f args (ext w u) fun e w''=>e=.returned v/\∃ u',w''=ext w u' :=
 h.mono fun _ w' ⟨he,hb⟩=>⟨he,u,hb.symm⟩
def lD(w:World):Growth w:=⟨{ w with drawn:=w.drawn+1 },⟨rfl,rfl,rfl,Nat.le_refl _,fun _ _=>rfl⟩⟩
theorem aC{P:Program}{id:Nat}{Q:Exit->Act->World->Prop}{a:Act}{w:World}{l:List Oper}(hm:P.follows .mixedOrders=true)(hB:Region.lexB .any l.toArray=true)
  (h:wpQuiet P l.toArray (fun w'=>∃ u,w'=ext w u) (fun a'=>∀ w',(∃ u,w'=ext w u)->Q .normal a' w') l a):(Code.region id l.toArray true).wp P Q a w :=
 wp_region_quiet (C:=fun w'=>∃ u,w'=ext w u) hm hB ⟨lD w,rfl⟩ (by simpa using h)
theorem ce{P:Program}{id:Nat}{Q:Exit->Act->World->Prop}{a:Act}{w:World}{l:List Oper}(n:Nat)(hm:P.follows .mixedOrders=true)(hn:n<l.length)(hB:Region.lexB .any (l.take n).toArray=true)(l9:cI l n=true)
  (hs:Region.sinkB .any l.toArray n=true) (hc:Region.chainB .any l.toArray n=true) (hseq:Region.seqB .any l.toArray (l.length - n) n (ar l n)=true)
  (h:wpQuiet P (l.take n).toArray (fun w'=>∃ u,w'=ext w u) (fun a'=>∀ w',(∃ u,w'=ext w u)->wpList P l.toArray Q (l.drop n) a' w') (l.take n) a):(Code.region id l.toArray true).wp P Q a w :=
 eW n hm hn hB l9 hs hc hseq ⟨lD w,rfl⟩ h
theorem aQ{w W:World}(h:Below w.heap.size w W)(u:Growth W):Below w.heap.size w (ext W u):=h.trans (u.ok.mono h.size)
end
section
open Go Go.RowKit
section
variable {P : Program} {ops : Array Oper} {Q : Exit → Act → World → Prop} {w : World}
end
end
section
namespace Mix
def upon(P:Program)(C:World->Prop)(v:Value):Result Next->Prop
 | .ok (.value u) w'=>C w'/\u=v
 | .ok .skip w'=>C w'/\v=undef
 | .ok (.enter f args) w'=>Calls P f args w' (fun e w''=>e=.returned v/\C w'')
 | _=>False
section
variable (P : Program) (ops : Array Oper) (CL : Array Bool → World → Prop)
def Gives(i:Nat)(o:Oper)(v:Value)(a:Act):Prop :=
 (Region.wanted o (yielded ops a.tmps)=true/\∀ L w,L.size=ops.size->i ∈ Region.ready .any ops L->CL L w->upon P (CL (L.setIfInBounds i true)) v ((execOp a.eval o).run P w)) \/
 (Region.wanted o (yielded ops a.tmps)=false/\v=undef/\∀ L w,L.size=ops.size->i ∈ Region.ready .any ops L->CL L w->CL (L.setIfInBounds i true) w)
def At(i:Nat)(K:Act->Prop)(a:Act):Prop:=∃ o v,ops[i]? = some o/\Gives P ops CL i o v a/\K (a.put o.dst v)
def Any(Q:Act->Prop):Nat->Array Bool->Act->Prop
 | 0,L,a=>Region.ready .any ops L=[]/\Q a
 | f+1,L,a=>(Region.ready .any ops L=[]->Q a)/\∀ i ∈ Region.ready .any ops L,At P ops CL i (Any Q f (L.setIfInBounds i true)) a
def lM(Q:Act->Prop):List Oper->Nat->Act->Prop
 | [],_,a=>Q a
 | o :: rest,k,a=>∃ v,Gives P ops CL k o v a/\lM Q rest (k+1) (a.put o.dst v)
end
section
variable {P : Program} {ops : Array Oper} {CL : Array Bool → World → Prop}
theorem At.mono{i:Nat}{K K':Act->Prop}{a:Act}(h:∀ a,K a->K' a)(hh:At P ops CL i K a):At P ops CL i K' a:=by
 obtain ⟨o,v,ho,hy,hk⟩:=hh;exact ⟨o,v,ho,hy,h _ hk⟩
theorem Gives.same{i:Nat}{o:Oper}{v:Value}{a a':Act}(h:Gives P ops CL i o v a)(he:execOp a'.eval o=execOp a.eval o)(hw:Region.wanted o (yielded ops a'.tmps)=Region.wanted o (yielded ops a.tmps)):Gives P ops CL i o v a':=by
 unfold Gives at *;rw [he,hw];exact h
theorem wpOp_of{i:Nat}{L:Array Bool}{a:Act}{w:World}{K:Act->Prop}{K':Act->World->Prop}{Q':Exit->Act->World->Prop}(hL:L.size=ops.size)(hr:i ∈ Region.ready .any ops L)(hC:CL L w)
  (h:∀ a w',CL (L.setIfInBounds i true) w'->K a->K' a w') (hh:At P ops CL i K a):wpOp P ops Q' i K' a w:=by
 obtain ⟨o,v,ho,hy,hk⟩:=hh;unfold wpOp;simp only [ho]
 rcases hy with ⟨hw,hv⟩ | ⟨hw,rfl,hv⟩
 ·rw [if_pos hw];refine .inl ?_;have h3:=hv L w hL hr hC;unfold Oper.wp;generalize (execOp a.eval o).run P w=r at *
  cases r with
  |halt x w'=>exact h3.elim
  |ok n w' =>
   cases n <;> simp only [upon] at h3 <;> simp only [Oper.upon]
   case value u =>
    obtain ⟨h4,rfl⟩:=h3;exact h _ _ h4 hk
   case skip =>
    obtain ⟨h4,rfl⟩:=h3;exact h _ _ h4 hk
   case enter f args =>
    exact h3.mono fun e w'' ⟨he,hw''⟩=>by subst he;exact h _ _ hw'' hk
 ·rw [if_neg (by rw [hw];exact Bool.false_ne_true)];exact h _ _ (hv L w hL hr hC) hk
theorem jI{Q:Act->Prop}{Q':Exit->Act->World->Prop}(hQ:∀ L a w,L.size=ops.size->Region.ready .any ops L=[]->CL L w->Q a->Q' .normal a w) :
  ∀ (f:Nat) (L:Array Bool) (a:Act) (w:World),L.size=ops.size->CL L w->Any P ops CL Q f L a->wpAny P .any ops Q' f L a w:=by
 intro f
 induction f with
 |zero=>exact fun L a w hs hC h=>⟨h.1,hQ L a w hs h.1 hC h.2⟩
 |succ f ih =>
  exact fun L a w hs hC h=>⟨fun h0=>hQ L a w hs h0 hC (h.1 h0),fun i hi=>wpOp_of hs hi hC (fun a' w' qS hK=>ih _ a' w' (by simpa using hs) qS hK) (h.2 i hi)⟩
theorem At.swap{i j:Nat}{oi oj:Oper}{v:Value}{K:Act->Prop}{a:Act}(hj:ops[j]? = some oj)(hap:oi.apart ops oj=true)(hsi:∀ cs b,oi.op≠.select cs b)(hsj:∀ cs b,oj.op≠.select cs b)
  (hy:Gives P ops CL i oi v a) (h:At P ops CL j K (a.put oi.dst v)):At P ops CL j (fun a'=>Gives P ops CL i oi v a'/\K (a'.put oi.dst v)) a:=by
 obtain ⟨p1,p2,p3⟩:=Oper.apart_spec hap;obtain ⟨o,u,ho,hg,hk⟩:=h;obtain rfl:o=oj:=Option.some.inj (ho.symm.trans hj);refine ⟨o,u,ho,hg.same (execOp_put o hsj a oi.dst v p1).symm (wanted_put o a oi.dst v p1).symm,?_,?_⟩
 ·exact hy.same (execOp_put oi hsi a o.dst u p3) (wanted_put oi a o.dst u p3)
 ·rw [<-Act.put_comm a v u p2];exact hk
theorem Any.first{Q:Act->Prop}{i:Nat}{oi:Oper}{v:Value}(hi:ops[i]? = some oi)(hsel:∀ (j:Nat) (o:Oper) cs b,ops[j]? = some o->o.op≠.select cs b) :
  ∀ (f:Nat) (L:Array Bool) (a:Act),
   (∀ j oj,ops[j]? = some oj->j≠i->L.getD j true=false->(∀ e ∈ oj.after,Region.binds .any e=true->e.on≠i)->oi.apart ops oj=true) ->
   i ∈ Region.ready .any ops L->Gives P ops CL i oi v a->Any P ops CL Q f (L.setIfInBounds i true) (a.put oi.dst v)->Any P ops CL Q (f+1) L a:=by
 intro f
 induction f with
 |zero =>
  intro L a _ hr hy H;refine ⟨fun h=>(by rw [h] at hr;cases hr),fun j hj=>?_⟩
  rcases Nat.decEq j i with oc | oc
  ·have:=ready_mono hj oc;rw [H.1] at this
   cases this
  ·subst oc;exact ⟨oi,v,hi,hy,H⟩
 |succ f ih =>
  intro L a hfree hr hy H;refine ⟨fun h=>(by rw [h] at hr;cases hr),fun j hj=>?_⟩
  rcases Nat.decEq j i with oc | oc
  ·obtain ⟨hun,oj,xJ,hall⟩:=mem_ready.1 hj;obtain ⟨hiu,_⟩:=mem_ready.1 hr;have hno:∀ e ∈ oj.after,Region.binds .any e=true->e.on≠i:=by
    intro e he hb tz;have h1:=hall e he hb;rw [tz] at h1
    rcases Nat.lt_or_ge i L.size with h' | h'
    ·simp [h'] at hiu h1
     rw [hiu] at h1
     cases h1
    ·simp [Array.getElem?_eq_none h'] at h1
   have h2:=At.swap xJ (hfree j oj xJ oc hun hno) (fun cs b=>hsel i oi cs b hi) (fun cs b=>hsel j oj cs b xJ) hy (H.2 j (ready_mono hj oc));refine h2.mono fun a' h3=>ih (L.setIfInBounds j true) a' (fun k ok hk ry hu hn=>?_) (ready_mono hr (Ne.symm oc)) h3.1 ?_
   ·refine hfree k ok hk ry ?_ hn
    by_cases hjk:j=k
    ·subst hjk;exact hun
    ·rw [getD_set_ne true hjk] at hu;exact hu
   ·rw [Array.setIfInBounds_comm _ _ oc];exact h3.2
  ·subst oc;exact ⟨oi,v,hi,hy,H⟩
theorem Any.lex{Q:Act->Prop}(hs:Region.noSelect ops=true):∀ (l:List Oper) (k:Nat) (L:Array Bool) (a:Act),(∀ j,l[j]? = ops[k+j]?) ->
  Region.lexFrom .any ops l.length k L=true->lM P ops CL Q l k a->Any P ops CL Q l.length L a:=by
 intro l
 induction l with
 |nil=>exact fun k L a _ hB h=>⟨by simpa [Region.lexFrom] using hB,h⟩
 |cons o l ih =>
  intro k L a hl hB h;have h0:ops[k]? = some o:=by simpa using (hl 0).symm
  simp only [List.length_cons,Region.lexFrom,Bool.and_eq_true] at hB;obtain ⟨⟨hr,hf⟩,hB'⟩:=hB;obtain ⟨v,hy,hK⟩:=h;exact Any.first h0 (Region.noSelect_spec hs) l.length L a (Region.free_spec h0 hf) (by simpa using hr) hy
   (ih (k+1) _ _ (fun j=>by have:=hl (j+1);simpa [Nat.add_assoc,Nat.add_comm 1 j] using this) hB' hK)
end
theorem all_listed{l:List Oper}{L:Array Bool}(l9:cI (l++[default]) l.length=true)(hs:L.size=l.length)(h:Region.ready .any l.toArray L=[]):L=Array.replicate l.length true:=by
 have h0:∀ i,i<l.length->L.getD i true=true:=by
  intro i
  induction i using Nat.strongRecOn with
  |_ i ih =>
   intro hi
   cases hl:L.getD i true with
   |true=>rfl
   |false =>
    exfalso;have ho:l[i]? = some l[i]:=List.getElem?_eq_getElem hi;have mn:(l++[default])[i]? = some l[i]:=by rw [List.getElem?_append_left hi];exact ho
    have hm:i ∈ Region.ready .any l.toArray L:=by
     refine mem_ready.2 ⟨hl,l[i],by simp,fun e he hb=>?_⟩;have hlt:=(eV l9 hi mn).1 e he hb;have:=ih e.on hlt (by omega);rw [bO (by omega)];exact this
    rw [h] at hm
    cases hm
 apply Array.ext
 ·simp [hs]
 ·intro i h1 h2;have:=h0 i (by omega);rw [Array.getD_eq_getD_getElem?,Array.getElem?_eq_getElem h1] at this
  simpa using this
theorem region{P:Program}{id:Nat}{Q:Exit->Act->World->Prop}{a:Act}{w:World}{l:List Oper}(CL:Array Bool->World->Prop)(hm:P.follows .mixedOrders=true)(hB:Region.lexB .any l.toArray=true)(l9:cI (l++[default]) l.length=true)
  (hC:CL (Array.replicate l.length false) { w with drawn:=w.drawn+1 }) (h:lM P l.toArray CL (fun a'=>∀ w',CL (Array.replicate l.length true) w'->Q .normal a' w') l 0 a):(Code.region id l.toArray true).wp P Q a w:=by
 simp only [Region.lexB,Bool.and_eq_true] at hB;refine wp_region_any hm ?_;have:=Any.lex (CL:=CL) hB.1 l 0 (Array.replicate l.toArray.size false) a (by simp) (by simpa using hB.2) h;refine jI (Q:=fun a'=>∀ w',CL (Array.replicate l.length true) w'->Q .normal a' w') (fun L a' w' hs hr qS hq=>?_) _ _ _ _ (by simp) (by simpa using hC) (by simpa using this);rw [all_listed l9 (by simpa using hs) hr] at qS;exact hq w' qS
section
variable {P : Program} {ops : Array Oper} {CL : Array Bool → World → Prop} {Q : Act → Prop}
def l5(o:Oper):Bool:=match o.op with | .move _ | .assign _ | .load _ _ | .binOp _ _ _ _ _ | .unOp _ _ _ | .convert _ _ _ | .slice _ _ _ _ _ | .fieldAddr _ _ _ | .field _ _ _ | .indexAddr _ _ _ | .index _ _ _ | .extract _ _ | .build _ _ | .makeInterface _ _ | .pick _ _ _=>false | _=>true
structure Spot (CL:Array Bool->World->Prop) where
 listed:Array Bool
 tz9:World
 ok:CL listed tz9
end
theorem put_lit(l:List Value)(d:List Deferred)(n:Nat)(v:Value):(Act.mk l.toArray d).put (some n) v=⟨(l.set n v).toArray,d⟩:=by
 unfold Act.put
 simp
def one(L:Array Bool)(i:Nat):Nat:=if L.getD i false=true then 1 else 0
theorem one_ne{L:Array Bool}{i j:Nat}(h:i≠j):one (L.setIfInBounds i true) j=one L j:=by
 unfold one;rw [getD_set_ne false h]
theorem one_set{L:Array Bool}{i:Nat}(h:i<L.size):one (L.setIfInBounds i true) i=1:=by
 unfold one;rw [Array.getD_eq_getD_getElem?,Array.getElem?_setIfInBounds_self_of_lt h]
 rfl
theorem one_ready{P:Array Oper}{L:Array Bool}{i:Nat}(h:i ∈ Region.ready .any P L):one L i=0:=by
 unfold one;have h0:=(mem_ready.1 h).1
 rcases Nat.lt_or_ge i L.size with h' | h'
 ·rw [bO h',h0];rfl
 ·rw [Array.getD_eq_getD_getElem?,Array.getElem?_eq_none h'] at h0
  cases h0
theorem one_un{L:Array Bool}{i:Nat}(h:L.getD i false=false):one L i=0:=by
 unfold one;rw [h];rfl
end Mix
end
section
open Go.RowKit
def Has(w:World)(g:Nat)(C:List Value)(t:TypeId):Prop:=w.heap[g]? = some (.cells C.toArray t (0,0))
theorem Has.lt{w:World}{g:Nat}{C:List Value}{t:TypeId}(h:Has w g C t):g<w.heap.size:=(Array.getElem?_eq_some_iff.1 h).1
theorem Has.cell{w:World}{g:Nat}{C:List Value}{t:TypeId}(h:Has w g C t)(i:Nat)(v:Value)(hv:C[i]? = some v):w.cell? ⟨g,i,none⟩=some v:=by
 rw [cell_of_row w g i C.toArray t (0,0) h];simpa using hv
theorem Has.free{w:World}{g:Nat}{C:List Value}{t:TypeId}(h:Has w g C t)(i:Nat):w.frozen? ⟨g,i,none⟩=false:=frozen_of_row w g i C.toArray t h
theorem Has.new(w:World)(C:List Value)(t:TypeId):Has (w.alloc (.cells C.toArray t)) w.heap.size C t:=heap_alloc_new w _
theorem Has.set{w:World}{g:Nat}{C:List Value}{t:TypeId}(h:Has w g C t)(i:Nat)(v:Value):Has (w.setCell ⟨g,i,none⟩ v) g (C.set i v) t:=by
 have:=heap_setCell_same w g i C.toArray t v h;unfold Has;rw [this]
 simp
theorem Has.alloc{w:World}{g:Nat}{C:List Value}{t:TypeId}(h:Has w g C t)(o:Obj):Has (w.alloc o) g C t:=by
 have hl:=h.lt;unfold Has World.alloc at *;simp only;rw [Array.getElem?_push_lt hl,<-Array.getElem?_eq_getElem hl];exact h
theorem Has.drewN{w:World}{g:Nat}{C:List Value}{t:TypeId}(h:Has w g C t)(n:Nat):Has (w.drewN n) g C t:=h
theorem Has.below{w w':World}{g B:Nat}{C:List Value}{t:TypeId}(h:Has w g C t)(hb:Below B w w')(hg:g<B):Has w' g C t:=(hb.block g hg).trans h
structure But (g B:Nat) (w w':World):Prop where
 os:w'.os=w.os
 tape:w'.tape=w.tape
 output:w'.output=w.output
 size:w.heap.size<=w'.heap.size
 block:∀ k,k<B->k≠g->w'.heap[k]? = w.heap[k]?
theorem But.refl(g B:Nat)(w:World):But g B w w:=⟨rfl,rfl,rfl,Nat.le_refl _,fun _ _ _=>rfl⟩
theorem But.trans{g B:Nat}{a b c:World}(h:But g B a b)(k:But g B b c):But g B a c :=
 ⟨k.os.trans h.os,k.tape.trans h.tape,k.output.trans h.output,Nat.le_trans h.size k.size,fun i hi hn=>(k.block i hi hn).trans (h.block i hi hn)⟩
theorem But.ofBelow{g B:Nat}{w w':World}(h:Below B w w'):But g B w w':=⟨h.os,h.tape,h.output,h.size,fun k hk _=>h.block k hk⟩
theorem But.mono{g B B':Nat}{w w':World}(h:But g B w w')(hb:B'<=B):But g B' w w':=⟨h.os,h.tape,h.output,h.size,fun k hk hn=>h.block k (by omega) hn⟩
theorem But.below{g B B':Nat}{w w':World}(h:But g B w w')(hb:B'<=B)(hg:B'<=g):Below B' w w':=⟨h.os,h.tape,h.output,h.size,fun k hk=>h.block k (by omega) (by omega)⟩
theorem But.set{g B:Nat}{w w':World}(h:But g B w w')(i:Nat)(v:Value):But g B w (w'.setCell ⟨g,i,none⟩ v) :=
 ⟨h.os,h.tape,h.output,by rw [World.size_setCell];exact h.size,fun k hk hn=>by rw [heap_setCell_other w' ⟨g,i,none⟩ k v hn];exact h.block k hk hn⟩
theorem But.alloc{g B:Nat}{w w':World}(h:But g B w w')(hB:B<=w.heap.size)(o:Obj):But g B w (w'.alloc o):=by
 have:=h.size;exact h.trans (.ofBelow ((Below.refl B w').alloc (by omega) o))
theorem But.drewN{g B:Nat}{w w':World}(h:But g B w w')(n:Nat):But g B w (w'.drewN n):=⟨h.os,h.tape,h.output,h.size,h.block⟩
theorem Has.but{w w':World}{g g' B:Nat}{C:List Value}{t:TypeId}(h:Has w g C t)(hb:But g' B w w')(hg:g<B)(hn:g≠g'):Has w' g C t:=(hb.block g hg hn).trans h
theorem lT(w:World)(g:Nat)(x y z:Value):But g w.heap.size w (((w.setCell ⟨g,0,none⟩ x).setCell ⟨g,1,none⟩ y).setCell ⟨g,2,none⟩ z) :=
 (((But.refl _ _ _).set 0 _).set 1 _).set 2 _
end
def Kept(w w':World)(base:Nat)(e:TypeId)(size:Nat)(D C:List Value)(m:Nat):Prop :=
 (∀ v n xs,w.ownsRow base e size v n xs->xs <+: D->w'.ownsRow base e size v n xs)/\∀ g,w.ownsRow base e size (.slice (some ⟨g,0,none⟩) m m) m C->w'.ownsRow base e size (.slice (some ⟨g,0,none⟩) m m) m C
theorem Kept.refl(w:World)(base:Nat)(e:TypeId)(size:Nat)(D C:List Value)(m:Nat):Kept w w base e size D C m:=⟨fun _ _ _ h _=>h,fun _ h=>h⟩
theorem Kept.below{w w':World}(hb:Below w.heap.size w w')(base:Nat)(e:TypeId)(size:Nat)(D C:List Value)(m:Nat):Kept w w' base e size D C m:=⟨fun _ _ _ h _=>bI h hb,fun _ h=>bI h hb⟩
section
abbrev an:=Nat->Prop
structure KeepZ (Z:an) (w w':World):Prop where
 size:w.heap.size<=w'.heap.size
 block:∀ b,b<w.heap.size->Z b->w'.heap[b]? = w.heap[b]?
theorem KeepZ.refl(Z:an)(w:World):KeepZ Z w w:=⟨Nat.le_refl _,fun _ _ _=>rfl⟩
theorem KeepZ.trans{Z:an}{a b c:World}(h:KeepZ Z a b)(k:KeepZ Z b c):KeepZ Z a c :=
 ⟨Nat.le_trans h.size k.size,fun i hi hz=>(k.block i (Nat.lt_of_lt_of_le hi h.size) hz).trans (h.block i hi hz)⟩
theorem KeepZ.mono{Z Y:an}{w w':World}(h:KeepZ Z w w')(hz:∀ b,b<w.heap.size->Y b->Z b):KeepZ Y w w':=⟨h.size,fun b hb hy=>h.block b hb (hz b hb hy)⟩
theorem KeepZ.below{B:Nat}{w w':World}(h:Below B w w'):KeepZ (fun b=>b<B) w w':=⟨h.size,fun b _ hz=>h.block b hz⟩
theorem KeepZ.all{w w':World}(h:Below w.heap.size w w')(Z:an):KeepZ Z w w':=⟨h.size,fun b hb _=>h.block b hb⟩
theorem KeepZ.grown{w w':World}{row:Option Nat}(h:w.grownBy w' row):KeepZ (fun b=>row≠some b) w w':=⟨h.size,fun b hb hz=>h.block b hb (Ne.symm hz)⟩
theorem KeepZ.but{g:Nat}{w w':World}(h:But g w.heap.size w w'):KeepZ (fun b=>b≠g) w w':=⟨h.size,fun b hb hz=>h.block b hb hz⟩
theorem KeepZ.cell{Z:an}{w w':World}(h:KeepZ Z w w'){b o:Nat}(hb:b<w.heap.size)(hz:Z b):w'.cell? ⟨b,o,none⟩=w.cell? ⟨b,o,none⟩:=World.cell?_of_block (a:=⟨b,o,none⟩) (h.block b hb hz)
theorem KeepZ.has{Z:an}{w w':World}(h:KeepZ Z w w'){g:Nat}{C:List Value}{t:TypeId}(hg:Has w g C t)(hz:Z g):Has w' g C t:=(h.block g hg.lt hz).trans hg
theorem KeepZ.own{Z:an}{w w':World}(h:KeepZ Z w w'){B e size n:Nat}{v:Value}{xs:List Value}(ho:w.ownsRow B e size v n xs)(hz:∀ b,v.ownBlock=some b->Z b):w'.ownsRow B e size v n xs:=by
 refine ⟨ho.1,?_⟩
 rcases ho.2 with hn | ⟨g,cap,cur,rfl,hB,hg,rest⟩
 ·exact .inl hn
 ·exact .inr ⟨g,cap,cur,rfl,hB,(h.block g (Array.getElem?_eq_some_iff.1 hg).1 (hz g rfl)).trans hg,rest⟩
structure Elem (α:Type) where
 size:Nat
 zero:α
 rep:an->World->List Value->α->Prop
 len:∀ {Z:an} {w:World} {C:List Value} {x:α},rep Z w C x->C.length=size
 one:∀ {Z:an} {w:World} {C:List Value} {x:α},rep Z w C x->∀ u ∈ C,u.oneCell'=true
 keep:∀ {Z Y:an} {w w':World} {C:List Value} {x:α},KeepZ Z w w'->(∀ b,b<w.heap.size->Z b->Y b)->rep Z w C x->rep Y w' C x
def HeldE{α:Type}(E:Elem α)(Z:an)(w:World)(v:Value)(L:List α):Prop :=
 ∃ ao cap,v=.slice ao L.length cap/\L.length<=cap/\cap<=maxLen/\(ao=none->L=[]/\cap=0) /\
  ∀ i,i<L.length->∃ b off,ao=some ⟨b,off,none⟩/\b<w.heap.size/\Z b/\∃ C,(∀ j,j<E.size->w.cell? ⟨b,off+i * E.size+j,none⟩=C[j]?)/\E.rep Z w C (L.getD i E.zero)
section
variable {α : Type} {E : Elem α} {Z Y : an} {w w' : World} {v u : Value} {L M : List α}
theorem HeldE.nil(E:Elem α)(Z:an)(w:World):HeldE E Z w (.slice none 0 0) []:=⟨none,0,rfl,Nat.le_refl _,Nat.zero_le _,fun _=>⟨rfl,rfl⟩,fun i hi=>absurd hi (Nat.not_lt_zero _)⟩
theorem HeldE.keep(h:HeldE E Z w v L)(hk:KeepZ Z w w')(hy:∀ b,b<w.heap.size->Z b->Y b):HeldE E Y w' v L:=by
 obtain ⟨ao,cap,rfl,hl,hm,hn,hc⟩:=h;refine ⟨ao,cap,rfl,hl,hm,hn,fun i hi=>?_⟩;obtain ⟨b,off,rfl,hb,hz,C,hC,hr⟩:=hc i hi;exact ⟨b,off,rfl,Nat.lt_of_lt_of_le hb hk.size,hy b hb hz,C,fun j hj=>(hk.cell hb hz).trans (hC j hj),E.keep hk hy hr⟩
theorem HeldE.kept(h:HeldE E Z w v L)(hk:KeepZ Z w w'):HeldE E Z w' v L:=h.keep hk fun _ _ hz=>hz
theorem HeldE.below(h:HeldE E Z w v L)(hb:Below w.heap.size w w'):HeldE E Z w' v L:=h.kept (.all hb Z)
theorem HeldE.zone(h:HeldE E Z w v L)(hy:∀ b,b<w.heap.size->Z b->Y b):HeldE E Y w v L:=h.keep (.refl _ _) hy
theorem HeldE.len(h:HeldE E Z w v L):∃ ao cap,v=.slice ao L.length cap:=by
 obtain ⟨ao,cap,rfl,_⟩:=h;exact ⟨ao,cap,rfl⟩
theorem HeldE.max(h:HeldE E Z w v L):L.length<=9223372036854775807:=by
 obtain ⟨ao,cap,rfl,hl,hm,_⟩:=h;unfold maxLen at hm;omega
theorem HeldE.spots{ao:Option Addr}{n cap:Nat}(h:HeldE E Z w (.slice ao n cap) L):n=L.length/\n<=cap/\∀ i,i<L.length->∃ b off,ao=some ⟨b,off,none⟩/\b<w.heap.size/\Z b/\∃ C,(∀ j,j<E.size->w.cell? ⟨b,off+i * E.size+j,none⟩=C[j]?)/\E.rep Z w C (L.getD i E.zero):=by
 obtain ⟨ao',cap',he,hl,_,_,hc⟩:=h
 cases he
 exact ⟨rfl,hl,hc⟩
theorem HeldE.nilL{n cap:Nat}(h:HeldE E Z w (.slice none n cap) L):L=[]/\n=0/\cap=0:=by
 obtain ⟨ao',cap',he,hl,_,hn,hc⟩:=h
 cases he
 obtain ⟨rfl,rfl⟩:=hn rfl;exact ⟨rfl,rfl,rfl⟩
theorem HeldE.part{ao:Option Addr}{n cap:Nat}(h:HeldE E Z w (.slice ao n cap) L)(lo hi:Nat)(h1:lo<=hi)(h2:hi<=L.length) :
  ∀ a' cap',(ao=none->a'=none/\cap'=0)->(∀ b off,ao=some ⟨b,off,none⟩->lo<hi->a'=some ⟨b,off+lo * E.size,none⟩)->(∀ a,ao=some a->a'≠none)->hi - lo<=cap'->cap'<=maxLen->HeldE E Z w (.slice a' (hi - lo) cap') ((L.drop lo).take (hi - lo)):=by
 intro a' cap' hn hs hne hc hm;obtain ⟨_,_,hsp⟩:=h.spots;have hlen:((L.drop lo).take (hi - lo)).length=hi - lo:=by simp;omega
 refine ⟨a',cap',by rw [hlen],by rw [hlen];exact hc,hm,fun he=>?_,fun i hi'=>?_⟩
 ·cases ao with
  |none =>
   obtain ⟨rfl,rfl,rfl⟩:=h.nilL;exact ⟨by simp,(hn rfl).2⟩
  |some a=>exact absurd he (hne a rfl)
 ·rw [hlen] at hi';obtain ⟨b,off,rfl,hb,hz,C,hC,hr⟩:=hsp (lo+i) (by omega);refine ⟨b,off+lo * E.size,hs b off rfl (by omega),hb,hz,C,fun j hj=>?_,?_⟩
  ·rw [<-hC j hj,Nat.add_mul,Nat.add_assoc off]
  ·rw [show ((L.drop lo).take (hi - lo)).getD i E.zero=L.getD (lo+i) E.zero from by simp [List.getD,List.getElem?_take,hi',List.getElem?_drop]];exact hr
end
def a8(k:IntKind):Elem Int where
 size:=1
 zero:=0
 rep:=fun _ _ C x=>C=[.int k x]
 len:=by rintro _ _ _ _ rfl;rfl
 one:=by
  rintro _ _ _ _ rfl u hu
  simp at hu
  subst hu;rfl
 keep:=fun _ _ h=>h
def jl:Elem Bool where
 size:=1
 zero:=false
 rep:=fun _ _ C x=>C=[.bool x]
 len:=by rintro _ _ _ _ rfl;rfl
 one:=by
  rintro _ _ _ _ rfl u hu
  simp at hu
  subst hu;rfl
 keep:=fun _ _ h=>h
def slE{α:Type}(E:Elem α):Elem (List α) where
 size:=1
 zero:=[]
 rep:=fun Z w C L=>∃ v,C=[v]/\HeldE E Z w v L
 len:=by rintro _ _ _ _ ⟨v,rfl,_⟩;rfl
 one:=by
  rintro _ _ _ _ ⟨v,rfl,h⟩ u hu
  simp at hu
  subst hu;obtain ⟨ao,cap,rfl,_⟩:=h
  rfl
 keep:=by
  rintro _ _ _ _ _ _ hk hy ⟨v,rfl,h⟩;exact ⟨v,rfl,h.keep hk hy⟩
def prE{α β:Type}(E:Elem α)(F:Elem β):Elem (α × β) where
 size:=E.size+F.size
 zero:=(E.zero,F.zero)
 rep:=fun Z w C x=>∃ C1 C2,C=C1++C2/\E.rep Z w C1 x.1/\F.rep Z w C2 x.2
 len:=by
  rintro _ _ _ _ ⟨C1,C2,rfl,h1,h2⟩;rw [List.length_append,E.len h1,F.len h2]
 one:=by
  rintro _ _ _ _ ⟨C1,C2,rfl,h1,h2⟩ u hu
  rcases List.mem_append.1 hu with h | h
  ·exact E.one h1 u h
  ·exact F.one h2 u h
 keep:=by
  rintro _ _ _ _ _ _ hk hy ⟨C1,C2,rfl,h1,h2⟩;exact ⟨C1,C2,rfl,E.keep hk hy h1,F.keep hk hy h2⟩
theorem HeldE.ints{k:IntKind}{Z:an}{w:World}{v:Value}{xs:List Int}(h:HeldE (a8 k) Z w v xs):Held k w v xs:=by
 obtain ⟨ao,cap,rfl,_,_,hn,hc⟩:=h;refine ⟨ao,cap,rfl,hn,fun i hi=>?_⟩;obtain ⟨b,off,rfl,hb,_,C,hC,rfl⟩:=hc i hi;refine ⟨b,off,rfl,hb,?_⟩;have:=hC 0 (Nat.lt_succ_self 0)
 simpa [a8] using this
theorem bw{s:Nat}:∀ {CS:List (List Value)},(∀ C ∈ CS,C.length=s)->CS.flatten.length=CS.length * s
 |[],_=>by simp
 |C :: CS,h=>by
  rw [List.flatten_cons,List.length_append,bw (fun D hD=>h D (List.mem_cons_of_mem _ hD)),h C (by simp),List.length_cons,Nat.add_mul];omega
theorem cP{s:Nat}:∀ {CS:List (List Value)},(∀ C ∈ CS,C.length=s)->∀ i j,i<CS.length->j<s->CS.flatten[i * s+j]? = (CS.getD i [])[j]?
 |[],_,i,_,hi,_=>absurd hi (Nat.not_lt_zero _)
 |C :: CS,h,0,j,_,hj=>by
  rw [List.flatten_cons,Nat.zero_mul,Nat.zero_add,List.getElem?_append_left (by rw [h C (by simp)];exact hj)]
  rfl
 |C :: CS,h,i+1,j,hi,hj=>by
  have:=cP (fun D hD=>h D (List.mem_cons_of_mem _ hD)) i j (by simpa using hi) hj;rw [List.flatten_cons,List.getElem?_append_right (by rw [h C (by simp),Nat.add_mul];omega),h C (by simp),show (i+1) * s+j - s=i * s+j by rw [Nat.add_mul];omega,this]
  rfl
def OwnE{α:Type}(E:Elem α)(Z:an)(w:World)(B:Nat)(ty:TypeId)(v:Value)(L:List α):Prop :=
 ∃ CS:List (List Value),w.ownsRow B ty E.size v L.length CS.flatten/\CS.length=L.length/\∀ i,i<L.length->E.rep (fun b=>Z b/\v.ownBlock≠some b) w (CS.getD i []) (L.getD i E.zero)
section
variable {α : Type} {E : Elem α} {Z Y : an} {w w' : World} {v u : Value} {L M : List α} {B : Nat} {ty : TypeId}
theorem cF{Z:an}{CS:List (List Value)}(hl:CS.length=L.length)(h:∀ i,i<L.length->E.rep Z w (CS.getD i []) (L.getD i E.zero)):∀ C ∈ CS,C.length=E.size:=by
 intro C hC;obtain ⟨i,hi,rfl⟩:=List.getElem_of_mem hC;have:=E.len (h i (by omega))
 rwa [show CS.getD i []=CS[i] from by simp [List.getD,List.getElem?_eq_getElem hi]] at this
theorem kA{Z:an}{CS:List (List Value)}(hl:CS.length=L.length)(h:∀ i,i<L.length->E.rep Z w (CS.getD i []) (L.getD i E.zero)):∀ u ∈ CS.flatten,u.oneCell'=true:=by
 intro u hu;obtain ⟨C,hC,hu⟩:=List.mem_flatten.1 hu;obtain ⟨i,hi,rfl⟩:=List.getElem_of_mem hC;refine E.one (h i (by omega)) u ?_
 rwa [show CS.getD i []=CS[i] from by simp [List.getD,List.getElem?_eq_getElem hi]]
theorem OwnE.nil(E:Elem α)(Z:an)(w:World)(B:Nat)(ty:TypeId):OwnE E Z w B ty (.slice none 0 0) []:=⟨[],World.ownsRow_nil _ _ _ _,rfl,fun i hi=>absurd hi (Nat.not_lt_zero _)⟩
theorem OwnE.lt(h:OwnE E Z w B ty v L):∀ k,v.ownBlock=some k->B<=k/\k<w.heap.size:=by
 obtain ⟨CS,h,_⟩:=h;exact h.lt
theorem OwnE.keep(h:OwnE E Z w B ty v L)(hk:KeepZ (fun b=>Z b\/v.ownBlock=some b) w w')(hy:∀ b,b<w.heap.size->Z b->Y b):OwnE E Y w' B ty v L:=by
 obtain ⟨CS,h1,h2,h3⟩:=h;refine ⟨CS,hk.own h1 fun b hb=>.inr hb,h2,fun i hi=>E.keep (hk.mono fun b _ hz=>.inl hz.1) (fun b hb hz=>⟨hy b hb hz.1,hz.2⟩) (h3 i hi)⟩
theorem OwnE.below(h:OwnE E Z w B ty v L)(hb:Below w.heap.size w w'):OwnE E Z w' B ty v L:=h.keep (.all hb _) fun _ _ hz=>hz
theorem OwnE.base(h:OwnE E Z w B ty v L){B':Nat}(hb:B'<=B):OwnE E Z w B' ty v L:=by
 obtain ⟨CS,⟨h1,h2⟩,h3,h4⟩:=h;refine ⟨CS,⟨h1,?_⟩,h3,h4⟩
 rcases h2 with h2 | ⟨g,cap,cur,rfl,hB,rest⟩
 ·exact .inl h2
 ·exact .inr ⟨g,cap,cur,rfl,by omega,rest⟩
theorem OwnE.held(h:OwnE E Z w B ty v L)(hz:∀ b,B<=b->b<w.heap.size->Z b):HeldE E Z w v L:=by
 obtain ⟨CS,h1,h2,h3⟩:=h;have na:=cF h2 h3
 rcases h1.2 with ⟨rfl,h0⟩ | ⟨g,cap,cur,rfl,hB,hg,hn,hmx,_⟩
 ·have:L=[]:=List.eq_nil_of_length_eq_zero h0;subst this;exact HeldE.nil _ _ _
 ·refine ⟨some ⟨g,0,none⟩,cap,rfl,hn,hmx,(fun e=>by cases e),fun i hi=>?_⟩;have oP:=(Array.getElem?_eq_some_iff.1 hg).1;refine ⟨g,0,rfl,oP,hz g hB oP,CS.getD i [],fun j hj=>?_,E.keep (.refl _ _) (fun b _ h=>h.1) (h3 i hi)⟩;rw [Nat.zero_add,h1.cellAt (i * E.size+j) (by
   have:i * E.size+E.size<=L.length * E.size:=by rw [<-Nat.succ_mul];exact Nat.mul_le_mul_right _ hi
   omega)]
  exact cP na i j (by omega) hj
theorem HeldE.news{a:Addr}{n cap:Nat}(h:HeldE E Z w (.slice (some a) n cap) L)(h0:0<E.size):∃ CS:List (List Value),CS.length=L.length/\n=L.length/\(∀ j u,CS.flatten[j]? = some u->w.cell? (a.add j)=some u)/\∀ i,i<L.length->E.rep Z w (CS.getD i []) (L.getD i E.zero):=by
 obtain ⟨hn,_,hc⟩:=h.spots;have hch:∀ i:Fin L.length,∃ C,(∀ j,j<E.size->w.cell? (a.add (i * E.size+j))=C[j]?)/\E.rep Z w C (L.getD i E.zero):=by
  intro i;obtain ⟨b,off,e,_,_,C,h1,h2⟩:=hc i.1 i.2
  cases e
  refine ⟨C,fun j hj=>?_,h2⟩;rw [Addr.add_lit,<-h1 j hj,Nat.add_assoc]
 refine ⟨List.ofFn fun i=>Classical.choose (hch i),by simp,hn,fun j u hj=>?_,fun i hi=>?_⟩
 ·have hlens:∀ C ∈ (List.ofFn fun i=>Classical.choose (hch i)),C.length=E.size:=by
   intro C hC;obtain ⟨i,rfl⟩:=List.mem_ofFn.1 hC;exact E.len (Classical.choose_spec (hch i)).2
  have mD:=bw hlens;have tZ:j<(List.ofFn fun i=>Classical.choose (hch i)).flatten.length:=(List.getElem?_eq_some_iff.1 hj).1;rw [mD,List.length_ofFn] at tZ;have hi:j / E.size<L.length:=(Nat.div_lt_iff_lt_mul h0).2 tZ;have hjj:j=j / E.size * E.size+j % E.size:=by rw [Nat.mul_comm];exact (Nat.div_add_mod j E.size).symm
  have hmod:j % E.size<E.size:=Nat.mod_lt _ h0;have h1:=(Classical.choose_spec (hch ⟨j / E.size,hi⟩)).1 (j % E.size) hmod;have h2:=cP hlens (j / E.size) (j % E.size) (by simpa using hi) hmod;rw [<-hjj,hj] at h2;simp only [List.getD,List.getElem?_ofFn,hi,dif_pos,Option.getD_some] at h2;rw [hjj];exact h1.trans h2.symm
 ·simp only [List.getD,List.getElem?_ofFn,hi,dif_pos,Option.getD_some];exact (Classical.choose_spec (hch ⟨i,hi⟩)).2
theorem fK(k:IntKind):∀ xs:List Int,(xs.map fun x=>[Value.int k x]).flatten=xs.map (Value.int k)
 | []=>rfl
 | x :: xs=>by rw [List.map_cons,List.flatten_cons,fK k xs];rfl
theorem ei{k:IntKind}{Z:an}{w:World}{B n:Nat}{ty:TypeId}{v:Value}{xs:List Int}(h:w.ownsRow B ty 1 v n (xs.map (Value.int k))):OwnE (a8 k) Z w B ty v xs:=by
 have hn:xs.length=n:=by have:=h.1;simpa using this
 subst hn;refine ⟨xs.map fun x=>[.int k x],?_,by simp,fun i hi=>?_⟩
 ·rw [fK];exact h
 ·show _=_
  simp [List.getD,List.getElem?_eq_getElem hi,a8]
theorem OwnE.ints{k:IntKind}{Z:an}{w:World}{B:Nat}{ty:TypeId}{v:Value}{xs:List Int}(h:OwnE (a8 k) Z w B ty v xs):w.ownsRow B ty 1 v xs.length (xs.map (Value.int k)):=by
 obtain ⟨CS,h1,h2,h3⟩:=h;have e:CS.flatten=xs.map (Value.int k):=by
  apply List.ext_getElem?
  intro i;have na:∀ C ∈ CS,C.length=1:=cF h2 h3
  by_cases hi:i<xs.length
  ·have:=cP na i 0 (by omega) (by omega);rw [Nat.mul_one,Nat.add_zero] at this;rw [this,show CS.getD i []=[.int k (xs.getD i 0)] from h3 i hi]
   simp [List.getD,List.getElem?_eq_getElem hi]
  ·rw [List.getElem?_eq_none (by rw [bw na];omega),List.getElem?_eq_none (by simp;omega)]
 rw [<-e];exact h1
theorem OwnE.lit(w:World)(E:Elem α)(CS:List (List Value))(L:List α)(n:Nat)(hn:L.length=n)(hl:CS.length=n)(hb:B<=w.heap.size)(hm:n<=maxLen)(hr:∀ i,i<n->E.rep Z w (CS.getD i []) (L.getD i E.zero))(C:Array Value)(hC:C=CS.flatten.toArray) :
  OwnE E Z (w.alloc (.cells C ty)) B ty (.slice (some ⟨w.heap.size,0,none⟩) n n) L:=by
 subst hC hn;have na:=cF hl hr;refine ⟨CS,?_,hl,fun i hi=>E.keep (Z:=fun b=>Z b/\b<w.heap.size) (.all (l7 _ _) _) (fun b hb hz=>⟨hz.1,fun e=>?_⟩) (E.keep (.refl _ _) (fun b hb hz=>⟨hz,hb⟩) (hr i hi))⟩
 ·have:=World.ownsRow_lit (base:=B) (e:=ty) (size:=E.size) w CS.flatten.toArray L.length hb hm (by simp only [List.size_toArray];rw [bw na,hl])
  simpa using this
 ·simp only [Value.ownBlock,Option.some.injEq] at e;omega
end
end
section
theorem eB{P:Program}(w:World)(base:Nat)(t ty e:TypeId)(i:TypeInfo)(z:Value)(size bytes:Nat)(ht:P.underlying t=some (.slice e))(hi:P.info? e=some i)(hz:i.zero=some z)
  (hsize:i.size=size) (hby:i.bytes=bytes) (hzs:z.cells.size=size) (hsz:0<size)
  (v:Value) (n:Nat) (xs:List Value) (hown:w.ownsRow base e size v n xs)
  (a:Addr) (m c:Nat) (news:List Value) (hl:news.length=m * size) (hnews:∀ j u,news[j]? = some u->w.cell? (a.add j)=some u) (h1:∀ u ∈ news,u.oneCell'=true)
  (h63:n+m<=maxLen) (hbytes:(n+m) * bytes<=140737488355328) (hbase:base<=w.heap.size) :
  ∃ v' w',(Builtin.append_ #[t,t] ty #[v,.slice (some a) m c]).run P w=.ok v' w'/\w'.ownsRow base e size v' (n+m) (xs++news)/\w.grownBy w' v.ownBlock/\∀ b,b<w.heap.size->v.ownBlock≠some b->v'.ownBlock≠some b:=by
 have hsmall:n+m<=9223372036854775807:=by simp only [maxLen] at h63;omega
 rcases id hown.2 with ⟨rfl,rfl⟩ | ⟨g,cap,cur,rfl,hb,hg,vc,hcm,hcs,rA⟩
 ·have hx:xs=[]:=List.eq_nil_of_length_eq_zero (by simpa using hown.1);subst hx;obtain ⟨v',w',hr,h2,h3,_⟩:=run_append_own (P:=P) w w.heap.size t ty e i z size bytes ht hi hz hsize hby hzs hsz _ 0 [] (World.ownsRow_nil _ _ _ _) a m c news hl hnews h1 h63 hbytes (Nat.le_refl _);refine ⟨v',w',hr,⟨h2.1,?_⟩,h3,fun b hb _ e=>by have:=(h2.lt b e).1;omega⟩
  rcases h2.2 with h | ⟨g,cap,cur,rfl,hg,rest⟩
  ·exact .inl h
  ·exact .inr ⟨g,cap,cur,rfl,by omega,rest⟩
 ·by_cases hroom:n+m<=cap
  ·obtain ⟨w2,hr2,h4,h5⟩:=run_append_fits (P:=P) w base t ty e i size ht hi hsize g n cap xs hown a m c news hl hnews h1 hroom;exact ⟨_,_,hr2,h4,h5,fun b _ hn=>hn⟩
  ·obtain ⟨v',w',hr,h2,h3,_⟩:=run_append_own (P:=P) w base t ty e i z size bytes ht hi hz hsize hby hzs hsz _ n xs hown a m c news hl hnews h1 h63 hbytes hbase;subst hsize;subst hby;have hr2:=run_append_grow (P:=P) w t ty e i z ht hi hz ⟨g,0,none⟩ n cap xs hown.1 (hown.cells (g:=g) rfl) a m c news hl hnews (by omega) (by omega) (growslice_fits (by omega) hbytes);rw [hr2] at hr
   cases hr
   refine ⟨_,_,hr2,h2,h3,fun b hb _ e=>?_⟩
   simp [Value.ownBlock] at e
   omega
section
variable {α : Type} {E : Elem α} {Z Y : an} {w w' : World} {v u : Value} {L M : List α} {B : Nat} {ty : TypeId}
theorem cD{β:Type}(xs ys:List β)(d:β)(i:Nat):(xs++ys).getD i d=if i<xs.length then xs.getD i d else ys.getD (i - xs.length) d:=by
 simp only [List.getD]
 split <;> rename_i h
 ·rw [List.getElem?_append_left h]
 ·rw [List.getElem?_append_right (by omega)]
theorem cO{P:Program}(t tt:TypeId)(z:Value)(bytes:Nat)(ht:P.underlying t=some (.slice ty))(mX:(P.info? ty).map (fun i=>(i.zero,i.size,i.bytes))=some (some z,E.size,bytes))(hzs:z.cells.size=E.size)(h0:0<E.size)
  (hv:OwnE E Z w B ty v L) (hu:HeldE E (fun b=>Z b/\v.ownBlock≠some b) w u M) (hn:(L.length+M.length) * bytes<=140737488355328) (qZ:L.length+M.length<=140737488355328) (hB:B<=w.heap.size) :
  ∃ v' w',(Builtin.append_ #[t,t] tt #[v,u]).run P w=.ok v' w'/\OwnE E Z w' B ty v' (L++M)/\Below B w w'/\KeepZ (fun b=>v.ownBlock≠some b) w w'/\∀ b,b<w.heap.size->v.ownBlock≠some b->v'.ownBlock≠some b:=by
 obtain ⟨i0,hi,hz0,hz1,hz2⟩:=info_parts mX;obtain ⟨CS,h1,h2,h3⟩:=id hv;obtain ⟨ao,cap,rfl,hlc,_,vt,hc⟩:=id hu
 cases ao with
 |none =>
  obtain ⟨rfl,rfl⟩:=vt rfl;have hr:=run_append_owned_none (P:=P) w B t tt ty i0 E.size ht hi v L.length CS.flatten h1;exact ⟨v,w,hr,by simpa using hv,Below.refl _ _,.refl _ _,fun _ _ h=>h⟩
 |some ad =>
  obtain ⟨DS,d1,_,d3,d4⟩:=hu.news h0;have na:=cF d1 d4;have hls1:=cF h2 h3;obtain ⟨v',w',hr,k1,k2,k3⟩:=eB (P:=P) w B t tt ty i0 z E.size bytes ht hi hz0 hz1 hz2 hzs h0 v L.length CS.flatten h1 ad M.length cap DS.flatten (by rw [bw na,d1]) d3 (kA d1 d4) (by unfold maxLen;omega) hn hB;have kz:KeepZ (fun b=>v.ownBlock≠some b) w w':=.grown k2;refine ⟨v',w',hr,⟨CS++DS,?_,by simp [h2,d1],fun i hi=>?_⟩,(Below.refl B w).grown k2 hB fun k hk=>(hv.lt k hk).1,kz,k3⟩
  ·rw [List.flatten_append,List.length_append];exact k1
  ·rw [cD,cD,h2];simp only [List.length_append] at hi
   split
   ·rename_i hlt
    exact E.keep (kz.mono fun b _ hz=>hz.2) (fun b hb hz=>⟨hz.1,k3 b hb hz.2⟩) (h3 i hlt)
   ·rename_i xA
    exact E.keep (kz.mono fun b _ hz=>hz.2) (fun b hb hz=>⟨hz.1,k3 b hb hz.2⟩) (d4 (i - L.length) (by omega))
theorem HeldE.lower(h:HeldE E Z w v L):HeldE E (fun b=>b<w.heap.size) w v L:=h.zone fun b hb _=>hb
theorem HeldE.apart{B:Nat}(h:HeldE E (fun b=>b<B) w u M)(ho:∀ k,v.ownBlock=some k->B<=k/\k<w'.heap.size):HeldE E (fun b=>True/\v.ownBlock≠some b) w u M:=h.zone fun b _ hz=>⟨trivial,fun e=>by have:=(ho b e).1;omega⟩
theorem cE(C:List Value)(x:α)(hr:E.rep Y w C x)(hy:∀ b,b<w.heap.size->Y b->Z b)(hz:Z w.heap.size):HeldE E Z (w.alloc (.cells C.toArray ty)) (.slice (some ⟨w.heap.size,0,none⟩) 1 1) [x]:=by
 refine ⟨_,1,rfl,Nat.le_refl _,(by decide),(fun h=>by cases h),fun i hi=>?_⟩;have xr:i=0:=by simpa using hi
 subst xr;refine ⟨w.heap.size,0,rfl,by simp,hz,C,fun j hj=>?_,?_⟩
 ·rw [cell_of_row (w.alloc (.cells C.toArray ty)) w.heap.size (0+0 * E.size+j) C.toArray ty (0,0) (heap_alloc_new w _)]
  simp
 ·exact E.keep (.all (l7 _ _) Y) hy hr
end
section
variable {P : Program} {α : Type} {E : Elem α} {Z Y : an} {w : World} {v u : Value} {L M : List α} {B : Nat} {ty : TypeId}
theorem eR{ρ:Operand->Value}{o:Oper}{s x:Operand}{t:TypeId}{w w':World}{v u v':Value}(ho:o.op=.call { callee:=.builtin .append,args:=#[s,x],argTypes:=#[t,t] })(hs:ρ s=v)(hx:ρ x=u)
  (hr:(Builtin.append_ #[t,t] o.type #[v,u]).run P w=.ok v' w'):(execOp ρ o).run P w=.ok (.value v') w':=by
 unfold execOp;simp only [ho,resolve,invoke,builtin,Sem.run_bind,Sem.run_pure,Result.andThen_ok,List.map_toArray,List.map_cons,List.map_nil,hs,hx,hr]
theorem da{ops:Array Oper}{rest:List Oper}{o:Oper}{a:Act}{Q:Exit->Act->World->Prop}{w w':World}{v:Value}(hgd:o.guard=none)(he:(execOp a.eval o).run P w=.ok (.value v) w')(h:wpList P ops Q rest (a.put o.dst v) w'):wpList P ops Q (o :: rest) a w:=by
 refine wpList_plain hgd fun K hK=>?_
 unfold Oper.wp;rw [he];exact hK _ _ h
theorem bR{ops:Array Oper}{rest:List Oper}{o:Oper}{a:Act}{Q:Exit->Act->World->Prop}(hgd:o.guard=none)(s x:Operand)(t:TypeId)
  (ho:o.op=.call { callee:=.builtin .append,args:=#[s,x],argTypes:=#[t,t] })
  (z:Value) (bytes:Nat) (ht:P.underlying t=some (.slice ty)) (mX:(P.info? ty).map (fun i=>(i.zero,i.size,i.bytes))=some (some z,E.size,bytes)) (hzs:z.cells.size=E.size) (h0:0<E.size)
  (hs:a.eval s=v) (hx:a.eval x=u) (hv:OwnE E Z w B ty v L) (hu:HeldE E (fun b=>Z b/\v.ownBlock≠some b) w u M) (hn:(L.length+M.length) * bytes<=140737488355328) (qZ:L.length+M.length<=140737488355328) (hB:B<=w.heap.size)
  (h:∀ v' w',OwnE E Z w' B ty v' (L++M)->Below B w w'->KeepZ (fun b=>v.ownBlock≠some b) w w'->(∀ b,b<w.heap.size->v.ownBlock≠some b->v'.ownBlock≠some b)->wpList P ops Q rest (a.put o.dst v') w') :
  wpList P ops Q (o :: rest) a w:=by
 obtain ⟨v',w',hr,h1,h2,h3,h4⟩:=cO (P:=P) t o.type z bytes ht mX hzs h0 hv hu hn qZ hB;refine da hgd ?_ (h v' w' h1 h2 h3 h4);exact eR ho hs hx hr
end
end
def al(b:Int):Int:=if b<=127 then 1 else if b<194 then 0 else if b<=223 then 2 else if b<=239 then 3 else if b<=244 then 4 else 0
theorem dH(b:Int):(b<=127/\al b=1)\/(127<b/\b<194/\al b=0)\/(194<=b/\b<=223/\al b=2)\/(224<=b/\b<=239/\al b=3)\/(240<=b/\b<=244/\al b=4)\/(244<b/\al b=0):=by
 unfold al;omega
theorem dT(b:Int)(w:World)(h0:0<=b)(h1:b<=255):Calls Tryd.prog 120 #[.int .u8 b] w fun e w'=>e=.returned (.int .i64 (al b))/\w=w':=by
 rcases dH b with ⟨h2,hs⟩ | ⟨h2,h3,hs⟩ | ⟨h2,h3,hs⟩ | ⟨h2,h3,hs⟩ | ⟨h2,h3,hs⟩ | ⟨h2,hs⟩
 all_goals
  rw [hs];clear hs
  go_enter Tryd.func120,Tryd.ntmps120
  go_wp2;go_ret;exact ⟨rfl,rfl⟩
def bb(b:Int):Bool:=decide (128<=b) && decide (b<=191)
theorem fa{b:Int}:bb b=true↔128<=b/\b<=191:=by unfold bb;simp
theorem dU(b:Int)(w:World)(h0:0<=b)(h1:b<=255):Calls Tryd.prog 124 #[.int .u8 b] w fun e w'=>e=.returned (.bool (bb b))/\w=w':=by
 have hv:(b<128/\bb b=false)\/(128<=b/\b<=191/\bb b=true)\/(191<b/\bb b=false):=by unfold bb;simp;omega
 rcases hv with ⟨h2,hs⟩ | ⟨h2,h3,hs⟩ | ⟨h2,hs⟩
 all_goals
  rw [hs];clear hs
  go_enter Tryd.func124,Tryd.ntmps124
  go_wp2;go_ret;exact ⟨aq (by first | rfl | (simp;omega)),rfl⟩
def aN(b:Int):Int:=if al b=1 then b else if al b=2 then b % 32 else if al b=3 then b % 16 else if al b=4 then b % 8 else 0
theorem kO(b:Int)(w:World)(h0:0<=b)(h1:b<=255):Calls Tryd.prog 125 #[.int .u8 b] w fun e w'=>e=.returned (.int .i64 (aN b))/\w=w':=by
 rcases dH b with ⟨h2,hs⟩ | ⟨h2,h3,hs⟩ | ⟨h2,h3,hs⟩ | ⟨h2,h3,hs⟩ | ⟨h2,h3,hs⟩ | ⟨h2,hs⟩
 all_goals
  have hb:aN b=aN b:=rfl
  conv at hb=>rhs;unfold aN;rw [hs]
  simp at hb
  rw [hb];clear hb;have HS:=aa hs;clear hs
  go_enter Tryd.func125,Tryd.ntmps125
  go_wp2_with fail
  refine (dT b _ h0 h1).mono ?_;rintro e w' ⟨rfl,rfl⟩;rw [HS.out];go_wp2;go_ret;exact ⟨rfl,rfl⟩
def lo2(b:Int):Int:=if al b<2 then 0 else if b=224 then 160 else if b=240 then 144 else 128
def hi2(b:Int):Int:=if al b<2 then 0 else if b=244 then 143 else if b=237 then 159 else 191
theorem iW(b:Int)(w:World)(h0:0<=b)(h1:b<=255)(hl:2<=al b):Calls Tryd.prog 126 #[.int .u8 b] w fun e w'=>e=.returned (.int .u8 (lo2 b))/\w=w':=by
 have hv:(b=224/\lo2 b=160)\/(b=240/\lo2 b=144)\/(b≠224/\b≠240/\lo2 b=128):=by unfold lo2;omega
 clear hl
 rcases hv with ⟨rfl,hs⟩ | ⟨rfl,hs⟩ | ⟨h2,h3,hs⟩
 all_goals
  rw [hs];clear hs
  go_enter Tryd.func126,Tryd.ntmps126
  go_wp2;go_ret;exact ⟨rfl,rfl⟩
theorem ip(b:Int)(w:World)(h0:0<=b)(h1:b<=255)(hl:2<=al b):Calls Tryd.prog 127 #[.int .u8 b] w fun e w'=>e=.returned (.int .u8 (hi2 b))/\w=w':=by
 have hv:(b=244/\hi2 b=143)\/(b=237/\hi2 b=159)\/(b≠244/\b≠237/\hi2 b=191):=by unfold hi2;omega
 clear hl
 rcases hv with ⟨rfl,hs⟩ | ⟨rfl,hs⟩ | ⟨h2,h3,hs⟩
 all_goals
  rw [hs];clear hs
  go_enter Tryd.func127,Tryd.ntmps127
  go_wp2;go_ret;exact ⟨rfl,rfl⟩
theorem iX(b:Int)(w:World)(h0:0<=b)(h1:b<=255):Calls Tryd.prog 123 #[.int .u8 b] w fun e w'=>e=.returned (.tuple #[.int .u8 (lo2 b),.int .u8 (hi2 b)])/\w=w':=by
 by_cases hl:2<=al b
 ·have H:=aa hl
  go_enter Tryd.func123,Tryd.ntmps123
  go_wp2_with fail
  refine (dT b _ h0 h1).mono ?_;rintro e w' ⟨rfl,rfl⟩
  go_wp2_with fail
  refine (iW b _ h0 h1 H.out).mono ?_;rintro e w' ⟨rfl,rfl⟩
  go_wp2_with fail
  refine (ip b _ h0 h1 H.out).mono ?_;rintro e w' ⟨rfl,rfl⟩;go_wp2
  go_ret2
  exact ⟨rfl,rfl⟩
 ·have e1:lo2 b=0:=by unfold lo2;omega
  have e2:hi2 b=0:=by unfold hi2;omega
  rw [e1,e2];clear e1 e2
  go_enter Tryd.func123,Tryd.ntmps123
  go_wp2_with fail
  refine (dT b _ h0 h1).mono ?_;rintro e w' ⟨rfl,rfl⟩;go_wp2
  go_ret2
  exact ⟨rfl,rfl⟩
section
open Go.Deep
def cR(P:Program){α:Type}(E:Elem α)(ok:α->Prop)(t:TypeId):Prop :=
 P.cellsOf t=E.size/\∀ {H:Type} (enc:TypeId × Value->H) (W:World) (base fuel:Nat) (cs:List Value) (x:DataW H × List MemPlace),DataW.trod enc P W base (fun _=>true) true fuel t cs=some x->∃ y,E.rep (fun b=>b<W.heap.size) W cs y/\ok y
section
variable {P : Program} {α β γ : Type} {E : Elem α} {F : Elem β} {G : Elem γ} {ok : α → Prop} {ok' : β → Prop} {ok'' : γ → Prop} {t e : TypeId}
theorem dq{k:IntKind}(hu:P.underlying t=some (.int k))(hc:P.cellsOf t=1):cR P (a8 k) (fun n=>(Lit.int k n).wf=true) t:=by
 refine ⟨hc,fun enc W base fuel cs x h=>?_⟩;obtain ⟨n,rfl,_,hw⟩:=DataW.trod_int hu h;exact ⟨n,rfl,hw⟩
theorem dC(hu:P.underlying t=some .bool)(hc:P.cellsOf t=1):cR P jl (fun _=>True) t:=by
 refine ⟨hc,fun enc W base fuel cs x h=>?_⟩;obtain ⟨n,rfl,_⟩:=DataW.trod_bool hu h;exact ⟨n,rfl,trivial⟩
theorem gW(hu:P.underlying t=some (.slice e))(hc:P.cellsOf t=1)(h0:0<E.size)(he:cR P E ok e):cR P (slE E) (fun L=>∀ x ∈ L,ok x) t:=by
 refine ⟨hc,fun {H} enc W base fuel cs x h=>?_⟩;obtain ⟨hce,hop⟩:=he
 rcases open_slice hu h with ⟨rfl,_⟩ | ⟨a,len,cap,m,n,D,Pl,rfl,_,hl,hm,x9,_,hx⟩
 ·exact ⟨[],⟨_,rfl,HeldE.nil _ _ _⟩,by simp⟩
 ·simp at x9
  rw [hce] at hx;have hsp:0<len->a.spot=none:=by
   intro hl0;obtain ⟨cs',h1,_⟩:=hx 0 (by omega);obtain ⟨_,hlen,hcell⟩:=World.cells?_some h1;have hk:=hcell 0 h0;rw [List.getElem?_eq_getElem (by omega)] at hk;have:=World.cell?_spot hk
   simpa [Addr.add] using this
  have each:∀ i,i<len->∃ y:α,ok y/\∃ b off,a=⟨b,off,none⟩/\b<W.heap.size/\∃ C,(∀ j,j<E.size->W.cell? ⟨b,off+i * E.size+j,none⟩=C[j]?)/\E.rep (fun b=>b<W.heap.size) W C y:=by
   intro i hi;obtain ⟨cs',h1,h2⟩:=hx i (by omega);obtain ⟨_,hlen,hcell⟩:=World.cells?_some h1;obtain ⟨y,hr,hy⟩:=hop enc W base _ cs' _ h2;have hk:=hcell 0 h0;have hv:∃ v0,cs'[0]? = some v0:=⟨cs'[0],List.getElem?_eq_getElem (by omega)⟩;obtain ⟨v0,hv0⟩:=hv;rw [hv0] at hk;have hs:a.spot=none:=hsp (by omega);obtain ⟨b,off,sp⟩:=a;simp only at hs;subst hs;rw [Addr.add_lit,Addr.add_lit] at hk;refine ⟨y,hy,b,off,rfl,World.block_lt_of_cell? W ⟨b,off+i * E.size+0,none⟩ hk,cs',fun j hj=>?_,hr⟩;have:=hcell j hj;rw [Addr.add_lit,Addr.add_lit] at this;exact this
  have hg:∀ i (hi:i<len),(List.ofFn (n:=len) fun i=>Classical.choose (each i.val i.isLt)).getD i E.zero=Classical.choose (each i hi):=fun i hi=>by simp [List.getD,hi]
  refine ⟨List.ofFn (n:=len) fun i=>Classical.choose (each i.val i.isLt),⟨_,rfl,some a,cap,by simp,by simp;omega,hm,(fun h=>by cases h),fun i hi=>?_⟩,?_⟩
  ·have hi':i<len:=by simpa using hi
   obtain ⟨_,b,off,rfl,h1,C,h2,h3⟩:=Classical.choose_spec (each i hi');refine ⟨b,off,rfl,h1,h1,C,h2,?_⟩;rw [hg i hi'];exact h3
  ·intro y hy;obtain ⟨i,rfl⟩:=List.mem_ofFn.1 hy;exact (Classical.choose_spec (each i.val i.isLt)).1
theorem iI{f0 f1:Field}(hu:P.underlying t=some (.struct #[f0,f1]))(hc:P.cellsOf t=E.size+F.size)(h0:f0.offset=0)(h1:f1.offset=E.size)(he:cR P E ok f0.type)(hf:cR P F ok' f1.type):cR P (prE E F) (fun x=>ok x.1/\ok' x.2) t:=by
 refine ⟨hc,fun {H} enc W base fuel cs x h=>?_⟩;obtain ⟨y0,y1,n,_,hl,t0,t1⟩:=trod_struct2 hu h;rw [he.1,h0] at t0;rw [hf.1,h1] at t1;obtain ⟨x0,r0,k0⟩:=he.2 enc W base _ _ _ t0;obtain ⟨x1,r1,k1⟩:=hf.2 enc W base _ _ _ t1;refine ⟨(x0,x1),⟨_,_,?_,r0,r1⟩,k0,k1⟩;rw [hc] at hl;simp only [List.drop_zero];rw [List.take_of_length_le (l:=List.drop E.size cs) (by simp;omega),List.take_append_drop]
theorem gk{f0 f1 f2:Field}(hu:P.underlying t=some (.struct #[f0,f1,f2]))(hc:P.cellsOf t=E.size+(F.size+G.size))(h0:f0.offset=0)(h1:f1.offset=E.size)(h2:f2.offset=E.size+F.size)(he:cR P E ok f0.type)(hf:cR P F ok' f1.type)(hg:cR P G ok'' f2.type) :
  cR P (prE E (prE F G)) (fun x=>ok x.1/\ok' x.2.1/\ok'' x.2.2) t:=by
 refine ⟨hc,fun {H} enc W base fuel cs x h=>?_⟩;obtain ⟨y0,y1,y2,n,_,hl,t0,t1,t2⟩:=trod_struct3 hu h;rw [he.1,h0] at t0;rw [hf.1,h1] at t1;rw [hg.1,h2] at t2;obtain ⟨x0,r0,k0⟩:=he.2 enc W base _ _ _ t0;obtain ⟨x1,r1,k1⟩:=hf.2 enc W base _ _ _ t1;obtain ⟨x2,r2,k2⟩:=hg.2 enc W base _ _ _ t2;refine ⟨(x0,x1,x2),⟨_,_,?_,r0,_,_,rfl,r1,r2⟩,k0,k1,k2⟩;rw [hc] at hl;have e1:(List.drop (E.size+F.size) cs)=List.drop F.size (List.drop E.size cs):=by rw [List.drop_drop]
 rw [List.take_of_length_le (l:=List.drop (E.size+F.size) cs) (by simp;omega),e1,List.take_append_drop,List.drop_zero,List.take_append_drop]
end
end
section
open Go.Deep
structure Bulk (H:Type) where
 of:DataW H->Nat
 one:∀ d,1<=of d
 agg:∀ ps:List (DataW H),(ps.map of).sum<=of (.agg ps)
 slice:∀ es sp:List (DataW H),(es.map of).sum+1<=of (.slice es sp)
section
variable {P : Program} {α β γ : Type} {E : Elem α} {F : Elem β} {G : Elem γ} {ok : α → Prop} {ok' : β → Prop} {ok'' : γ → Prop} {wt : α → Nat} {wt' : β → Nat} {wt'' : γ → Nat} {t e : TypeId}
end
end
theorem ci{α:Type}(cs:List α)(a b:Nat):(cs.drop a).take b++cs.drop (a+b)=cs.drop a:=by
 rw [<-List.drop_drop];exact List.take_append_drop _ _
section
open Go.Deep
def bj(P:Program){α:Type}(E:Elem α)(ok:α->Prop)(t:TypeId):Prop :=
 P.cellsOf t=E.size/\∀ {H:Type} (enc:TypeId × Value->H) (W:World) (base fuel:Nat) (cs:List Value) (x:DataW H × List MemPlace),DataW.trod enc P W base (fun _=>true) true fuel t cs=some x->(∀ z ∈ x.1.weights P t,z<=reachBytes)->∃ y,E.rep (fun b=>b<W.heap.size) W cs y/\ok y
theorem df{H:Type}(P:Program)(e:TypeId):∀ (l:List (DataW H)) (d:DataW H),d ∈ l->∀ z ∈ d.weights P e,z ∈ DataW.weightsAll P e l
 |x :: l,d,h,z,hz=>by
  rw [DataW.weightsAll]
  rcases List.mem_cons.1 h with h | h
  ·subst h;exact List.mem_append.2 (.inl hz)
  ·exact List.mem_append.2 (.inr (df P e l d h z hz))
section
variable {P : Program} {α : Type} {E : Elem α} {ok : α → Prop} {t e : TypeId}
theorem fg{k:IntKind}(hu:P.underlying t=some (.int k))(hc:P.cellsOf t=1):bj P (a8 k) (fun n=>(Lit.int k n).wf=true) t:=by
 refine ⟨hc,fun enc W base fuel cs x h _=>?_⟩;obtain ⟨n,rfl,_,hw⟩:=DataW.trod_int hu h;exact ⟨n,rfl,hw⟩
theorem dV(hu:P.underlying t=some (.slice e))(hc:P.cellsOf t=1)(h0:0<E.size)(he:bj P E ok e):bj P (slE E) (fun L=>(∀ x ∈ L,ok x)/\L.length * P.bytesOf e<=reachBytes) t:=by
 refine ⟨hc,fun {H} enc W base fuel cs x h hz=>?_⟩;obtain ⟨hce,hop⟩:=he
 rcases open_slice hu h with ⟨rfl,rfl⟩ | ⟨a,len,cap,m,n,D,Pl,rfl,_,hl,hm,x9,rfl,hx⟩
 ·exact ⟨[],⟨_,rfl,HeldE.nil _ _ _⟩,by simp,by simp⟩
 ·simp at x9
  rw [hce] at hx;rw [DataW.weights,hu] at hz;simp only at hz;have hz0:=hz _ (List.mem_cons_self ..);have hzi:∀ i,i<len->∀ z ∈ (D i).weights P e,z<=reachBytes:=fun i hi z hzz=>hz z (List.mem_cons_of_mem _ (List.mem_append.2 (.inl (df P e _ (D i) (List.mem_map.2 ⟨i,List.mem_range.2 hi,rfl⟩) z hzz))))
  have hsp:0<len->a.spot=none:=by
   intro hl0;obtain ⟨cs',h1,_⟩:=hx 0 (by omega);obtain ⟨_,hlen,hcell⟩:=World.cells?_some h1;have hk:=hcell 0 h0;rw [List.getElem?_eq_getElem (by omega)] at hk;have:=World.cell?_spot hk
   simpa [Addr.add] using this
  have each:∀ i,i<len->∃ y:α,ok y/\∃ b off,a=⟨b,off,none⟩/\b<W.heap.size/\∃ C,(∀ j,j<E.size->W.cell? ⟨b,off+i * E.size+j,none⟩=C[j]?)/\E.rep (fun b=>b<W.heap.size) W C y:=by
   intro i hi;obtain ⟨cs',h1,h2⟩:=hx i (by omega);obtain ⟨_,hlen,hcell⟩:=World.cells?_some h1;obtain ⟨y,hr,hy⟩:=hop enc W base _ cs' _ h2 (hzi i hi);have hk:=hcell 0 h0;have hv:∃ v0,cs'[0]? = some v0:=⟨cs'[0],List.getElem?_eq_getElem (by omega)⟩;obtain ⟨v0,hv0⟩:=hv;rw [hv0] at hk;have hs:a.spot=none:=hsp (by omega);obtain ⟨b,off,sp⟩:=a;simp only at hs;subst hs;rw [Addr.add_lit,Addr.add_lit] at hk;refine ⟨y,hy,b,off,rfl,World.block_lt_of_cell? W ⟨b,off+i * E.size+0,none⟩ hk,cs',fun j hj=>?_,hr⟩;have:=hcell j hj;rw [Addr.add_lit,Addr.add_lit] at this;exact this
  have hg:∀ i (hi:i<len),(List.ofFn (n:=len) fun i=>Classical.choose (each i.val i.isLt)).getD i E.zero=Classical.choose (each i hi):=fun i hi=>by simp [List.getD,hi]
  refine ⟨List.ofFn (n:=len) fun i=>Classical.choose (each i.val i.isLt),⟨_,rfl,some a,cap,by simp,by simp;omega,hm,(fun h=>by cases h),fun i hi=>?_⟩,?_,?_⟩
  ·have hi':i<len:=by simpa using hi
   obtain ⟨_,b,off,rfl,h1,C,h2,h3⟩:=Classical.choose_spec (each i hi');refine ⟨b,off,rfl,h1,h1,C,h2,?_⟩;rw [hg i hi'];exact h3
  ·intro y hy;obtain ⟨i,rfl⟩:=List.mem_ofFn.1 hy;exact (Classical.choose_spec (each i.val i.isLt)).1
  ·rw [List.length_ofFn];simp only [List.length_map,List.length_range] at hz0;exact Nat.le_trans (Nat.mul_le_mul_right _ (Nat.le_add_right _ _)) hz0
end
end
section
namespace Reg
@[go_sem] def upon(P:Program)(Post:Value->World->Prop):Result Next->Prop
 | .ok (.value u) w'=>Post u w'
 | .ok .skip w'=>Post undef w'
 | .ok (.enter f args) w'=>Calls P f args w' (fun e w''=>∃ v,e=.returned v/\Post v w'')
 | _=>False
structure Plan where
 F:(Nat->Value)->Act
 E:Nat->Value->World->Prop
 C:Array Bool->World->Prop
 Ext:World->World->Prop
 stable:∀ j x w w',Ext w w'->E j x w->E j x w'
def upd(xs:Nat->Value)(i:Nat)(v:Value):Nat->Value:=fun j=>if j=i then v else xs j
def Closed(l:List Oper)(L:Array Bool):Prop:=∀ j o,l[j]? = some o->L.getD j false=true->∀ e ∈ o.after,Region.binds .any e=true->L.getD e.on false=true
theorem Closed.next{l:List Oper}{L:Array Bool}{i:Nat}(h:Closed l L)(hr:i ∈ Region.ready .any l.toArray L):Closed l (L.setIfInBounds i true):=by
 intro j o ho hl e he hb
 by_cases wm:i=j
 ·subst wm;obtain ⟨_,o',mn,hall⟩:=mem_ready.1 hr;obtain rfl:o=o':=Option.some.inj (ho.symm.trans (by simpa using mn));exact getD_set_true (hall e he hb)
 ·rw [getD_set_ne false wm] at hl;exact getD_set_true (h j o ho hl e he hb)
theorem Closed.start(l:List Oper)(n:Nat):Closed l (Array.replicate n false):=fun j o _ hl=>by rw [getD_replicate_false] at hl;cases hl
def reach(ops:Array Oper):Nat->Nat->Nat->Bool
 |0,_,_=>false
 |f+1,i,j=>Region.waitsFor .any ops i j || match ops[i]? with
  | some o=>o.after.any fun e=>Region.binds .any e && reach ops f e.on j
  | none=>false
theorem Closed.reach{l:List Oper}{L:Array Bool}(h:Closed l L):∀ (f i j:Nat),L.getD i false=true->reach l.toArray f i j=true->L.getD j false=true
 |0,_,_,_,hr=>by simp [Reg.reach] at hr
 |f+1,i,j,hi,hr=>by
  unfold Reg.reach at hr;rw [Bool.or_eq_true] at hr
  rcases hr with hr | hr
  ·obtain ⟨o,ho,e,he,hb,sJ⟩:=Region.waitsFor_spec hr;rw [<-sJ];exact h i o (by simpa using ho) hi e he hb
  ·cases ho:l.toArray[i]? with
   |none=>rw [ho] at hr;cases hr
   |some o =>
    rw [ho] at hr;obtain ⟨e,he,hb⟩:=Array.any_eq_true'.1 hr;rw [Bool.and_eq_true] at hb;exact Closed.reach h f e.on j (h i o (by simpa using ho) hi e he hb.1) hb.2
structure Here (p:Plan) (l:List Oper) (xs0:Nat->Value) (i:Nat) (L:Array Bool) (w:World) (xs:Nat->Value):Prop where
 size:L.size=l.length
 closed:Closed l L
 ready:i ∈ Region.ready .any l.toArray L
 cls:p.C L w
 vals:∀ j,j<l.length->L.getD j false=true->p.E j (xs j) w
 olds:∀ j,L.getD j false=false->xs j=xs0 j
theorem Here.dep{p:Plan}{l:List Oper}{xs0:Nat->Value}{i:Nat}{L:Array Bool}{w:World}{xs:Nat->Value}(h:Here p l xs0 i L w xs)(j:Nat)(hj:reach l.toArray 6 i j=true):L.getD j false=true:=by
 obtain ⟨_,o,ho,hall⟩:=mem_ready.1 h.ready;unfold reach at hj;rw [Bool.or_eq_true] at hj
 rcases hj with hj | hj
 ·obtain ⟨o',mn,e,he,hb,sJ⟩:=Region.waitsFor_spec hj;obtain rfl:o=o':=Option.some.inj (ho.symm.trans mn);rw [<-sJ];exact hall e he hb
 ·rw [ho] at hj;obtain ⟨e,he,hb⟩:=Array.any_eq_true'.1 hj;rw [Bool.and_eq_true] at hb;exact h.closed.reach 5 e.on j (hall e he hb.1) hb.2
theorem Here.val{p:Plan}{l:List Oper}{xs0:Nat->Value}{i:Nat}{L:Array Bool}{w:World}{xs:Nat->Value}(h:Here p l xs0 i L w xs)(j:Nat)(hj:reach l.toArray 6 i j=true)(hl:decide (j<l.length)=true):p.E j (xs j) w :=
 h.vals j (of_decide_eq_true hl) (h.dep j hj)
theorem Here.un{p:Plan}{l:List Oper}{xs0:Nat->Value}{i:Nat}{L:Array Bool}{w:World}{xs:Nat->Value}(h:Here p l xs0 i L w xs):Mix.one L i=0:=Mix.one_ready h.ready
theorem Here.isDone{p:Plan}{l:List Oper}{xs0:Nat->Value}{i:Nat}{L:Array Bool}{w:World}{xs:Nat->Value}(h:Here p l xs0 i L w xs)(j:Nat)(hj:reach l.toArray 6 i j=true):Mix.one L j=1:=by
 unfold Mix.one;rw [if_pos (h.dep j hj)]
theorem Here.v{p:Plan}{l:List Oper}{xs0:Nat->Value}{i:Nat}{L:Array Bool}{w:World}{xs:Nat->Value}(h:Here p l xs0 i L w xs)(j:Nat)(hj:reach l.toArray 6 i j=true:=by kernel_rfl)(hl:decide (j<l.length)=true:=by kernel_rfl):p.E j (xs j) w:=h.val j hj hl
theorem Here.notYet{p:Plan}{l:List Oper}{xs0:Nat->Value}{i:Nat}{L:Array Bool}{w:World}{xs:Nat->Value}(h:Here p l xs0 i L w xs)(j:Nat)(hj:reach l.toArray 6 j i=true):L.getD j false=false:=by
 cases hl:L.getD j false with
 |false=>rfl
 |true =>
  have h1:=h.closed.reach 6 j i hl hj;have h2:=(mem_ready.1 h.ready).1;obtain ⟨o',mn,_⟩:=(mem_ready.1 h.ready).2;have hlt:i<l.length:=by simpa using (Array.getElem?_eq_some_iff.1 mn).1
  rw [bO (by rw [h.size];exact hlt),h2] at h1
  cases h1
theorem Here.old{p:Plan}{l:List Oper}{xs0:Nat->Value}{i:Nat}{L:Array Bool}{w:World}{xs:Nat->Value}(h:Here p l xs0 i L w xs)(j:Nat)(hj:reach l.toArray 6 j i=true):xs j=xs0 j:=h.olds j (h.notYet j hj)
def Step(P:Program)(p:Plan)(l:List Oper)(xs0:Nat->Value)(i:Nat)(o:Oper):Prop :=
 ∀ L w xs,Here p l xs0 i L w xs ->
  (Region.wanted o (yielded l.toArray (p.F xs).tmps)=true/\upon P (fun v w'=>p.C (L.setIfInBounds i true) w'/\p.E i v w'/\p.Ext w w') ((execOp (p.F xs).eval o).run P w)) \/
  (Region.wanted o (yielded l.toArray (p.F xs).tmps)=false/\p.C (L.setIfInBounds i true) w/\p.E i undef w)
def Steps(P:Program)(p:Plan)(l:List Oper)(xs0:Nat->Value):List Oper->Nat->Prop
 | [],_=>True
 | o :: rest,i=>Step P p l xs0 i o/\Steps P p l xs0 rest (i+1)
def Puts(p:Plan):List Oper->Nat->Prop
 | [],_=>True
 | o :: rest,i=>(∀ xs v,(p.F xs).put o.dst v=p.F (upd xs i v))/\Puts p rest (i+1)
theorem puts_at{p:Plan}:∀ (m:List Oper) (k:Nat),Puts p m k->∀ j o,m[j]? = some o->∀ xs v,(p.F xs).put o.dst v=p.F (upd xs (k+j) v)
 |[],_,_,j,o,h=>by simp at h
 |q :: m,k,hs,j,o,h=>by
  cases j with
  |zero=>simp at h;subst h;exact hs.1
  |succ j =>
   have:=puts_at m (k+1) hs.2 j o (by simpa using h)
   rwa [show k+1+j=k+(j+1) by omega] at this
theorem steps_at{P:Program}{p:Plan}{l:List Oper}{xs0:Nat->Value}:∀ (m:List Oper) (k:Nat),Steps P p l xs0 m k->∀ j o,m[j]? = some o->Step P p l xs0 (k+j) o
 |[],_,_,j,o,h=>by simp at h
 |q :: m,k,hs,j,o,h=>by
  cases j with
  |zero=>simp at h;subst h;exact hs.1
  |succ j =>
   have:=steps_at m (k+1) hs.2 j o (by simpa using h)
   rwa [show k+1+j=k+(j+1) by omega] at this
section
variable {P : Program} {l : List Oper} {p : Plan} {xs0 : Nat → Value}
def Inv(p:Plan)(l:List Oper)(xs0:Nat->Value)(L:Array Bool)(a:Act)(w:World):Prop:=∃ xs,a=p.F xs/\L.size=l.length/\Closed l L/\p.C L w/\(∀ j,j<l.length->L.getD j false=true->p.E j (xs j) w)/\∀ j,L.getD j false=false->xs j=xs0 j
theorem Inv.next{L:Array Bool}{w w':World}{xs:Nat->Value}{i:Nat}{o:Oper}{v:Value}(hput:∀ i o,l[i]? = some o->∀ xs v,(p.F xs).put o.dst v=p.F (upd xs i v))(ho:l[i]? = some o)(hs:L.size=l.length)(hc:Closed l (L.setIfInBounds i true))
  (hv:∀ j,j<l.length->L.getD j false=true->p.E j (xs j) w) (hold:∀ j,L.getD j false=false->xs j=xs0 j) (hC:p.C (L.setIfInBounds i true) w') (hE:p.E i v w') (hx:∀ j,p.E j (xs j) w->p.E j (xs j) w'):Inv p l xs0 (L.setIfInBounds i true) ((p.F xs).put o.dst v) w':=by
 refine ⟨upd xs i v,hput i o ho xs v,by simpa using hs,hc,hC,fun j hj hl=>?_,fun j hl=>?_⟩
 ·unfold upd
  by_cases h:j=i
  ·subst h;rw [if_pos rfl];exact hE
  ·rw [if_neg h];rw [getD_set_ne false (Ne.symm h)] at hl;exact hx j (hv j hj hl)
 ·unfold upd
  by_cases h:j=i
  ·subst h;have hlt:j<L.size:=by rw [hs];exact (List.getElem?_eq_some_iff.1 ho).1
   rw [Array.getD_eq_getD_getElem?,Array.getElem?_setIfInBounds_self_of_lt hlt] at hl
   cases hl
  ·rw [if_neg h];rw [getD_set_ne false (Ne.symm h)] at hl;exact hold j hl
theorem wpOp_of{L:Array Bool}{a:Act}{w:World}{i:Nat}{K':Act->World->Prop}{Q':Exit->Act->World->Prop}(hput:∀ i o,l[i]? = some o->∀ xs v,(p.F xs).put o.dst v=p.F (upd xs i v))(hst:Steps P p l xs0 l 0)(hI:Inv p l xs0 L a w)(hr:i ∈ Region.ready .any l.toArray L)
  (h:∀ a' w',Inv p l xs0 (L.setIfInBounds i true) a' w'->K' a' w'):wpOp P l.toArray Q' i K' a w:=by
 obtain ⟨xs,rfl,hs,nw,hC,hv,hold⟩:=hI;have o0:=nw.next hr;obtain ⟨_,o,ho,_⟩:=mem_ready.1 hr;have mn:l[i]? = some o:=by simpa using ho
 have hstep:=steps_at l 0 hst i o mn;rw [Nat.zero_add] at hstep;unfold wpOp;simp only [ho]
 rcases hstep L w xs ⟨hs,nw,hr,hC,hv,hold⟩ with ⟨hw,hu⟩ | ⟨hw,qS,hE⟩
 ·rw [if_pos hw];refine .inl ?_;unfold Oper.wp;generalize (execOp (p.F xs).eval o).run P w=r at *
  cases r with
  |halt x w'=>exact hu.elim
  |ok n w' =>
   cases n <;> simp only [upon] at hu <;> simp only [Oper.upon]
   case value u =>
    obtain ⟨h1,h2,h3⟩:=hu;exact h _ _ (Inv.next hput mn hs o0 hv hold h1 h2 fun j=>p.stable j _ _ _ h3)
   case skip =>
    obtain ⟨h1,h2,h3⟩:=hu;exact h _ _ (Inv.next hput mn hs o0 hv hold h1 h2 fun j=>p.stable j _ _ _ h3)
   case enter f args =>
    exact hu.mono fun e w'' ⟨v,he,h1,h2,h3⟩=>by
     subst he;exact h _ _ (Inv.next hput mn hs o0 hv hold h1 h2 fun j=>p.stable j _ _ _ h3)
 ·rw [if_neg (by rw [hw];exact Bool.false_ne_true)];exact h _ _ (Inv.next hput mn hs o0 hv hold qS hE fun j h=>h)
theorem any_of{Q':Exit->Act->World->Prop}(l9:cI (l++[default]) l.length=true)(hput:∀ i o,l[i]? = some o->∀ xs v,(p.F xs).put o.dst v=p.F (upd xs i v))(hst:Steps P p l xs0 l 0)(hQ:∀ a w,Inv p l xs0 (Array.replicate l.length true) a w->Q' .normal a w) :
  ∀ (f:Nat) (L:Array Bool) (a:Act) (w:World),L.size=l.length->Inv p l xs0 L a w->aT l.length L=f->wpAny P .any l.toArray Q' f L a w:=by
 have hend:∀ (L:Array Bool) a w,L.size=l.length->Region.ready .any l.toArray L=[]->Inv p l xs0 L a w->Q' .normal a w:=by
  intro L a w hs hr hI;rw [Mix.all_listed l9 hs hr] at hI;exact hQ a w hI
 intro f
 induction f with
 |zero =>
  intro L a w hs hI hu;have hr:Region.ready .any l.toArray L=[]:=by
   cases hc:Region.ready .any l.toArray L with
   |nil=>rfl
   |cons i t =>
    have hi:i ∈ Region.ready .any l.toArray L:=by rw [hc];simp
    obtain ⟨h0,o,ho,_⟩:=mem_ready.1 hi;have hlt:i<l.length:=by simpa using (Array.getElem?_eq_some_iff.1 ho).1
    have:=bJ hu i hlt;rw [this] at h0
    cases h0
  exact ⟨hr,hend L a w hs hr hI⟩
 |succ f ih =>
  intro L a w hs hI hu;refine ⟨fun hr=>hend L a w hs hr hI,fun i hi=>wpOp_of hput hst hI hi fun a' w' hI'=>ih _ a' w' (by simpa using hs) hI' ?_⟩;obtain ⟨h0,o,ho,_⟩:=mem_ready.1 hi;have hlt:i<l.length:=by simpa using (Array.getElem?_eq_some_iff.1 ho).1
  have:=bU hs hlt h0;omega
theorem bA(n:Nat):aT n (Array.replicate n false)=n:=by
 unfold aT;rw [List.filter_eq_self.2 (fun i hi=>by
  have:=List.mem_range.1 hi;rw [getD_in (by simpa using this) (getD_replicate_false _ _)];rfl),List.length_range]
theorem region{id:Nat}{Q:Exit->Act->World->Prop}{a:Act}{w:World}(p:Plan)(xs0:Nat->Value)(hm:P.follows .mixedOrders=true)(l9:cI (l++[default]) l.length=true)(h0:a=p.F xs0)(hC:p.C (Array.replicate l.length false) { w with drawn:=w.drawn+1 })
  (oW:Puts p l 0) (hst:Steps P p l xs0 l 0)
  (hend:∀ xs w',p.C (Array.replicate l.length true) w'->(∀ j,j<l.length->p.E j (xs j) w')->Q .normal (p.F xs) w'):(Code.region id l.toArray true).wp P Q a w:=by
 refine wp_region_any hm ?_;have hput:∀ i o,l[i]? = some o->∀ xs v,(p.F xs).put o.dst v=p.F (upd xs i v):=fun i o ho=>by
  have:=puts_at l 0 oW i o ho
  rwa [Nat.zero_add] at this
 have:=any_of (Q':=Q) l9 hput hst (fun a w ⟨xs,e,_,_,hC,hv,_⟩=>by
  subst e;refine hend xs w hC fun j hj=>hv j hj ?_
  rw [Array.getD_eq_getD_getElem?,Array.getElem?_replicate,if_pos hj]
  rfl) l.length (Array.replicate l.length false) a { w with drawn:=w.drawn+1 } (by simp) ⟨xs0,h0,by simp,Closed.start _ _,hC,fun j hj hl=>(by rw [getD_replicate_false] at hl;cases hl),fun j _=>rfl⟩ (bA _)
 simpa using this
def frame(xs:Nat->Value):List (Option Tmp)->Nat->Act->Act
 | [],_,a=>a
 | d :: ds,i,a=>frame xs ds (i+1) (a.put d (xs i))
theorem put_none(a:Act)(v:Value):a.put none v=a:=rfl
def dsts(l:List Oper):List (Option Tmp):=l.map (·.dst)
def bg:List (Option Tmp)->Bool
 | []=>true
 | none :: ds=>bg ds
 | some d :: ds=>!ds.contains (some d) && bg ds
theorem fM(xs:Nat->Value)(d:Option Tmp)(v:Value):∀ (ds:List (Option Tmp)) (i:Nat) (a:Act),(∀ c,d=some c->some c ∉ ds)->frame xs ds i (a.put d v)=(frame xs ds i a).put d v
 |[],_,_,_=>rfl
 |e :: ds,i,a,h=>by
  unfold frame;rw [Act.put_comm a v (xs i) (fun c hc=>fun he=>h c hc (by simp [he])),fM xs d v ds (i+1) _ (fun c hc hm=>h c hc (by simp [hm]))]
theorem dw(xs:Nat->Value)(j:Nat)(v:Value):∀ (ds:List (Option Tmp)) (i:Nat) (a:Act),j<i->frame (upd xs j v) ds i a=frame xs ds i a
 |[],_,_,_=>rfl
 |e :: ds,i,a,h=>by
  unfold frame;rw [show upd xs j v i=xs i from if_neg (by omega)];exact dw xs j v ds (i+1) _ (by omega)
theorem jH(a:Act)(d:Option Tmp)(u v:Value):(a.put d u).put d v=a.put d v:=by
 cases d with
 | none=>rfl
 | some d=>simp [Act.put]
theorem cH(xs:Nat->Value)(v:Value):∀ (ds:List (Option Tmp)) (i:Nat) (a:Act),bg ds=true->∀ j d,ds[j]? = some d->(frame xs ds i a).put d v=frame (upd xs (i+j) v) ds i a
 |[],_,_,_,j,d,h=>by simp at h
 |e :: ds,i,a,ha,j,d,h=>by
  have ql:bg ds=true:=by
   cases e with
   | none=>exact ha
   | some e=>simp only [bg,Bool.and_eq_true] at ha;exact ha.2
  cases j with
  |zero =>
   simp at h
   subst h;unfold frame;simp only [Nat.add_zero];rw [dw xs i v ds (i+1) _ (by omega),show upd xs i v i=v from if_pos rfl];rw [<-fM xs e v ds (i+1) _ (fun c hc hm=>by subst hc;simp only [bg,Bool.and_eq_true,Bool.not_eq_true',List.contains_eq_mem,decide_eq_false_iff_not] at ha;exact ha.1 hm),jH]
  |succ j =>
   unfold frame;rw [show upd xs (i+(j+1)) v i=xs i from if_neg (by omega),cH xs v ds (i+1) _ ql j d (by simpa using h),show i+1+j=i+(j+1) by omega]
theorem puts_of{p:Plan}:∀ (m:List Oper) (k:Nat),(∀ j d,(dsts m)[j]? = some d->∀ xs v,(p.F xs).put d v=p.F (upd xs (k+j) v))->Puts p m k
 | [],_,_=>trivial
 | o :: m,k,h=>⟨fun xs v=>h 0 o.dst (by simp [dsts]) xs v,puts_of m (k+1) fun j d hd xs v=>by
  have:=h (j+1) d (by simpa [dsts] using hd) xs v
  rwa [show k+(j+1)=k+1+j by omega] at this⟩
theorem bN{l:List Oper}(a:Act)(hap:bg (dsts l)=true):a=frame (fun i=>match (dsts l)[i]? with | some (some d)=>a.tmps.getD d undef | _=>undef) (dsts l) 0 a:=by
 symm
 suffices h:∀ (ds:List (Option Tmp)) (i:Nat) (b:Act) (ys:Nat->Value),(∀ j d,ds[j]? = some (some d)->ys (i+j)=b.tmps.getD d undef)->bg ds=true->frame ys ds i b=b from
  h (dsts l) 0 a _ (fun j d hd=>by simp only [Nat.zero_add,hd]) hap
 intro ds
 induction ds with
 |nil=>intro _ _ _ _ _;rfl
 |cons e ds ih =>
  intro i b ys hy ha;have ql:bg ds=true:=by
   cases e with
   |none=>exact ha
   |some e=>simp only [bg,Bool.and_eq_true] at ha;exact ha.2
  have hb:b.put e (ys i)=b:=by
   cases e with
   |none=>rfl
   |some d =>
    have h0:=hy 0 d rfl;rw [Nat.add_zero] at h0;rw [h0];have hs:b.tmps.setIfInBounds d (b.tmps.getD d undef)=b.tmps:=by
     apply Array.ext
     ·simp
     ·intro q q1 q2;rw [Array.getElem_setIfInBounds]
      split
      ·rename_i hq
       subst hq;rw [Array.getD_eq_getD_getElem?,Array.getElem?_eq_getElem q2]
       rfl
      ·rfl
    show (⟨b.tmps.setIfInBounds d (b.tmps.getD d undef),b.defers⟩ : Act)=b;rw [hs]
  unfold frame;rw [hb];exact ih (i+1) b ys (fun j d hd=>by
   have:=hy (j+1) d (by simpa using hd)
   rwa [show i+(j+1)=i+1+j by omega] at this) ql
theorem g6{l:List Oper}{k:Nat}(hk:k<l.length):(ar l k).setIfInBounds k true=ar l (k+1):=by
 apply Array.ext
 ·simp [ar]
 ·intro i h1 h2;rw [Array.getElem_setIfInBounds (by simpa using h1)]
  ·have h3:(ar l (k+1))[i]=decide (i<k+1):=by simp [ar]
   have h4:∀ h,(ar l k)[i]'h=decide (i<k):=fun h=>by simp [ar]
   rw [h3,h4]
   by_cases h:k=i
   ·subst h;simp
   ·rw [if_neg h]
    by_cases h5:i<k
    ·rw [decide_eq_true h5,decide_eq_true (by omega)]
    ·rw [decide_eq_false h5,decide_eq_false (by omega)]
theorem eE{l:List Oper}{k i:Nat}(hi:i<l.length)(d:Bool):(ar l k).getD i d=decide (i<k):=by
 rw [Array.getD_eq_getD_getElem?,Array.getElem?_eq_getElem (by simp [ar];exact hi)]
 simp [ar]
theorem fN(l:List Oper):ar l 0=Array.replicate l.length false:=by
 apply Array.ext
 ·simp [ar]
 ·intro i h1 h2;simp [ar]
theorem g8(l:List Oper):ar l l.length=Array.replicate l.length true:=by
 apply Array.ext
 ·simp [ar]
 ·intro i h1 h2;have:i<l.length:=by simpa [ar] using h1
  simp [ar,this]
theorem eU{l:List Oper}{k:Nat}(l9:cI (l++[default]) l.length=true)(hk:k<l.length):k ∈ Region.ready .any l.toArray (ar l k):=by
 refine mem_ready.2 ⟨by rw [eE hk];simp,l[k],by simp,fun e he hb=>?_⟩;have mn:(l++[default])[k]? = some l[k]:=by rw [List.getElem?_append_left hk];exact List.getElem?_eq_getElem hk
 have hlt:=(eV l9 hk mn).1 e he hb;rw [eE (by omega)];exact decide_eq_true hlt
theorem regionF{id:Nat}{Q:Exit->Act->World->Prop}{a:Act}{w:World}(E:Nat->Value->World->Prop)(C:Array Bool->World->Prop)(X:World->World->Prop)(st:∀ j x w w',X w w'->E j x w->E j x w')
  (hm:P.follows .mixedOrders=true) (l9:cI (l++[default]) l.length=true) (hap:bg (dsts l)=true) (hC:C (Array.replicate l.length false) { w with drawn:=w.drawn+1 })
  (H:∀ (F:(Nat->Value)->Act),(∀ xs,F xs=frame xs (dsts l) 0 a)->Steps P ⟨F,E,C,X,st⟩ l (fun i=>match (dsts l)[i]? with | some (some d)=>a.tmps.getD d undef | _=>undef) l 0 /\
   (∀ xs w',C (Array.replicate l.length true) w'->(∀ j,j<l.length->E j (xs j) w')->Q .normal (F xs) w')):(Code.region id l.toArray true).wp P Q a w:=by
 obtain ⟨h1,h2⟩:=H (fun xs=>frame xs (dsts l) 0 a) (fun _=>rfl);refine region ⟨fun xs=>frame xs (dsts l) 0 a,E,C,X,st⟩ _ hm l9 (bN a hap) hC (puts_of l 0 fun j d hd xs v=>?_) h1 h2;have:=cH xs v (dsts l) 0 a hap j d hd
 simpa using this
end
theorem e4(X:World->World->Prop)(P0 P1 P2 P3:Value->World->Prop)(s0:∀ x w w1,X w w1->P0 x w->P0 x w1:=by exact fun _ _ _ _ h=>h)(s1:∀ x w w1,X w w1->P1 x w->P1 x w1:=by exact fun _ _ _ _ h=>h)(s2:∀ x w w1,X w w1->P2 x w->P2 x w1:=by exact fun _ _ _ _ h=>h)(s3:∀ x w w1,X w w1->P3 x w->P3 x w1:=by exact fun _ _ _ _ h=>h):∃ E:Nat->Value->World->Prop,Hid (∀ j x w w1,X w w1->E j x w->E j x w1)/\Hid (∀ x w,E 0 x w=P0 x w)/\Hid (∀ x w,E 1 x w=P1 x w)/\Hid (∀ x w,E 2 x w=P2 x w)/\Hid (∀ x w,E 3 x w=P3 x w) :=
 ⟨fun j=>match j with | 0=>P0 | 1=>P1 | 2=>P2 | 3=>P3 | _=>fun _ _=>True,aa fun j=>match j with | 0=>s0 | 1=>s1 | 2=>s2 | 3=>s3 | _+4=>fun _ _ _ _ h=>h,aa fun _ _=>rfl,aa fun _ _=>rfl,aa fun _ _=>rfl,aa fun _ _=>rfl⟩
theorem e8(X:World->World->Prop)(P0 P1 P2 P3 P4 P5 P6 P7:Value->World->Prop)(s0:∀ x w w1,X w w1->P0 x w->P0 x w1:=by exact fun _ _ _ _ h=>h)(s1:∀ x w w1,X w w1->P1 x w->P1 x w1:=by exact fun _ _ _ _ h=>h)(s2:∀ x w w1,X w w1->P2 x w->P2 x w1:=by exact fun _ _ _ _ h=>h)(s3:∀ x w w1,X w w1->P3 x w->P3 x w1:=by exact fun _ _ _ _ h=>h)(s4:∀ x w w1,X w w1->P4 x w->P4 x w1:=by exact fun _ _ _ _ h=>h)(s5:∀ x w w1,X w w1->P5 x w->P5 x w1:=by exact fun _ _ _ _ h=>h)(s6:∀ x w w1,X w w1->P6 x w->P6 x w1:=by exact fun _ _ _ _ h=>h)(s7:∀ x w w1,X w w1->P7 x w->P7 x w1:=by exact fun _ _ _ _ h=>h):∃ E:Nat->Value->World->Prop,Hid (∀ j x w w1,X w w1->E j x w->E j x w1)/\Hid (∀ x w,E 0 x w=P0 x w)/\Hid (∀ x w,E 1 x w=P1 x w)/\Hid (∀ x w,E 2 x w=P2 x w)/\Hid (∀ x w,E 3 x w=P3 x w)/\Hid (∀ x w,E 4 x w=P4 x w)/\Hid (∀ x w,E 5 x w=P5 x w)/\Hid (∀ x w,E 6 x w=P6 x w)/\Hid (∀ x w,E 7 x w=P7 x w) :=
 ⟨fun j=>match j with | 0=>P0 | 1=>P1 | 2=>P2 | 3=>P3 | 4=>P4 | 5=>P5 | 6=>P6 | 7=>P7 | _=>fun _ _=>True,aa fun j=>match j with | 0=>s0 | 1=>s1 | 2=>s2 | 3=>s3 | 4=>s4 | 5=>s5 | 6=>s6 | 7=>s7 | _+8=>fun _ _ _ _ h=>h,aa fun _ _=>rfl,aa fun _ _=>rfl,aa fun _ _=>rfl,aa fun _ _=>rfl,aa fun _ _=>rfl,aa fun _ _=>rfl,aa fun _ _=>rfl,aa fun _ _=>rfl⟩
theorem xT:∃ X:World->World->Prop,X=(fun _ _=>True)/\Hid (∀ w,X w w)/\Hid (∀ w w1,Below w.heap.size w w1->X w w1):=⟨_,rfl,aa fun _=>trivial,aa fun _ _ _=>trivial⟩
theorem hk{a b c:Prop}(x:a)(y:b)(z:c):Hid (a/\b/\c):=aa ⟨x,y,z⟩
theorem go{P:Program}{Post:Value->World->Prop}{r:Result Next}{a:Bool}{B:Prop}(h:a=true)(k:upon P Post r):(a=true/\upon P Post r)\/B:=.inl ⟨h,k⟩
end Reg
end
section
namespace RegC
open Reg (upon upd Closed reach frame dsts bg cH bN bA g6 eE fN g8 eU)
structure Plan where
 F:(Nat->Value)->Act
 E:Nat->Value->World->Prop
 C:Array Bool->(Nat->Value)->World->Prop
 Ext:Nat->World->World->Prop
structure Here (p:Plan) (l:List Oper) (xs0:Nat->Value) (i:Nat) (L:Array Bool) (w:World) (xs:Nat->Value):Prop where
 size:L.size=l.length
 closed:Closed l L
 ready:i ∈ Region.ready .any l.toArray L
 cls:p.C L xs w
 vals:∀ j,j<l.length->L.getD j false=true->p.E j (xs j) w
 olds:∀ j,L.getD j false=false->xs j=xs0 j
theorem Here.dep{p:Plan}{l:List Oper}{xs0:Nat->Value}{i:Nat}{L:Array Bool}{w:World}{xs:Nat->Value}(h:Here p l xs0 i L w xs)(j:Nat)(hj:reach l.toArray 6 i j=true):L.getD j false=true:=by
 obtain ⟨_,o,ho,hall⟩:=mem_ready.1 h.ready;unfold reach at hj;rw [Bool.or_eq_true] at hj
 rcases hj with hj | hj
 ·obtain ⟨o',mn,e,he,hb,sJ⟩:=Region.waitsFor_spec hj;obtain rfl:o=o':=Option.some.inj (ho.symm.trans mn);rw [<-sJ];exact hall e he hb
 ·rw [ho] at hj;obtain ⟨e,he,hb⟩:=Array.any_eq_true'.1 hj;rw [Bool.and_eq_true] at hb;exact h.closed.reach 5 e.on j (hall e he hb.1) hb.2
theorem Here.val{p:Plan}{l:List Oper}{xs0:Nat->Value}{i:Nat}{L:Array Bool}{w:World}{xs:Nat->Value}(h:Here p l xs0 i L w xs)(j:Nat)(hj:reach l.toArray 6 i j=true)(hl:decide (j<l.length)=true):p.E j (xs j) w :=
 h.vals j (of_decide_eq_true hl) (h.dep j hj)
theorem Here.un{p:Plan}{l:List Oper}{xs0:Nat->Value}{i:Nat}{L:Array Bool}{w:World}{xs:Nat->Value}(h:Here p l xs0 i L w xs):Mix.one L i=0:=Mix.one_ready h.ready
theorem Here.isDone{p:Plan}{l:List Oper}{xs0:Nat->Value}{i:Nat}{L:Array Bool}{w:World}{xs:Nat->Value}(h:Here p l xs0 i L w xs)(j:Nat)(hj:reach l.toArray 6 i j=true):Mix.one L j=1:=by
 unfold Mix.one;rw [if_pos (h.dep j hj)]
theorem Here.v{p:Plan}{l:List Oper}{xs0:Nat->Value}{i:Nat}{L:Array Bool}{w:World}{xs:Nat->Value}(h:Here p l xs0 i L w xs)(j:Nat)(hj:reach l.toArray 6 i j=true:=by kernel_rfl)(hl:decide (j<l.length)=true:=by kernel_rfl):p.E j (xs j) w:=h.val j hj hl
theorem Here.notYet{p:Plan}{l:List Oper}{xs0:Nat->Value}{i:Nat}{L:Array Bool}{w:World}{xs:Nat->Value}(h:Here p l xs0 i L w xs)(j:Nat)(hj:reach l.toArray 6 j i=true):L.getD j false=false:=by
 cases hl:L.getD j false with
 |false=>rfl
 |true =>
  have h1:=h.closed.reach 6 j i hl hj;have h2:=(mem_ready.1 h.ready).1;obtain ⟨o',mn,_⟩:=(mem_ready.1 h.ready).2;have hlt:i<l.length:=by simpa using (Array.getElem?_eq_some_iff.1 mn).1
  rw [bO (by rw [h.size];exact hlt),h2] at h1
  cases h1
theorem Here.old{p:Plan}{l:List Oper}{xs0:Nat->Value}{i:Nat}{L:Array Bool}{w:World}{xs:Nat->Value}(h:Here p l xs0 i L w xs)(j:Nat)(hj:reach l.toArray 6 j i=true):xs j=xs0 j:=h.olds j (h.notYet j hj)
def Step(P:Program)(p:Plan)(l:List Oper)(xs0:Nat->Value)(i:Nat)(o:Oper):Prop :=
 ∀ L w xs,Here p l xs0 i L w xs ->
  (Region.wanted o (yielded l.toArray (p.F xs).tmps)=true/\upon P (fun v w'=>p.C (L.setIfInBounds i true) (upd xs i v) w'/\p.E i v w'/\p.Ext i w w') ((execOp (p.F xs).eval o).run P w)) \/
  (Region.wanted o (yielded l.toArray (p.F xs).tmps)=false/\p.C (L.setIfInBounds i true) (upd xs i undef) w/\p.E i undef w)
def Steps(P:Program)(p:Plan)(l:List Oper)(xs0:Nat->Value):List Oper->Nat->Prop
 | [],_=>True
 | o :: rest,i=>Step P p l xs0 i o/\Steps P p l xs0 rest (i+1)
def Puts(p:Plan):List Oper->Nat->Prop
 | [],_=>True
 | o :: rest,i=>(∀ xs v,(p.F xs).put o.dst v=p.F (upd xs i v))/\Puts p rest (i+1)
theorem puts_at{p:Plan}:∀ (m:List Oper) (k:Nat),Puts p m k->∀ j o,m[j]? = some o->∀ xs v,(p.F xs).put o.dst v=p.F (upd xs (k+j) v)
 |[],_,_,j,o,h=>by simp at h
 |q :: m,k,hs,j,o,h=>by
  cases j with
  |zero=>simp at h;subst h;exact hs.1
  |succ j =>
   have:=puts_at m (k+1) hs.2 j o (by simpa using h)
   rwa [show k+1+j=k+(j+1) by omega] at this
theorem steps_at{P:Program}{p:Plan}{l:List Oper}{xs0:Nat->Value}:∀ (m:List Oper) (k:Nat),Steps P p l xs0 m k->∀ j o,m[j]? = some o->Step P p l xs0 (k+j) o
 |[],_,_,j,o,h=>by simp at h
 |q :: m,k,hs,j,o,h=>by
  cases j with
  |zero=>simp at h;subst h;exact hs.1
  |succ j =>
   have:=steps_at m (k+1) hs.2 j o (by simpa using h)
   rwa [show k+1+j=k+(j+1) by omega] at this
section
variable {P : Program} {l : List Oper} {p : Plan} {xs0 : Nat → Value}
def Inv(p:Plan)(l:List Oper)(xs0:Nat->Value)(L:Array Bool)(a:Act)(w:World):Prop:=∃ xs,a=p.F xs/\L.size=l.length/\Closed l L/\p.C L xs w/\(∀ j,j<l.length->L.getD j false=true->p.E j (xs j) w)/\∀ j,L.getD j false=false->xs j=xs0 j
theorem Inv.next{L:Array Bool}{w w':World}{xs:Nat->Value}{i:Nat}{o:Oper}{v:Value}(hput:∀ i o,l[i]? = some o->∀ xs v,(p.F xs).put o.dst v=p.F (upd xs i v))(ho:l[i]? = some o)(hs:L.size=l.length)(hc:Closed l (L.setIfInBounds i true))
  (hv:∀ j,j<l.length->L.getD j false=true->p.E j (xs j) w) (hold:∀ j,L.getD j false=false->xs j=xs0 j) (hC:p.C (L.setIfInBounds i true) (upd xs i v) w') (hE:p.E i v w') (hx:∀ j,j≠i->L.getD j false=true->p.E j (xs j) w->p.E j (xs j) w'):Inv p l xs0 (L.setIfInBounds i true) ((p.F xs).put o.dst v) w':=by
 refine ⟨upd xs i v,hput i o ho xs v,by simpa using hs,hc,hC,fun j hj hl=>?_,fun j hl=>?_⟩
 ·unfold upd
  by_cases h:j=i
  ·subst h;rw [if_pos rfl];exact hE
  ·rw [if_neg h];rw [getD_set_ne false (Ne.symm h)] at hl;exact hx j h hl (hv j hj hl)
 ·unfold upd
  by_cases h:j=i
  ·subst h;have hlt:j<L.size:=by rw [hs];exact (List.getElem?_eq_some_iff.1 ho).1
   rw [Array.getD_eq_getD_getElem?,Array.getElem?_setIfInBounds_self_of_lt hlt] at hl
   cases hl
  ·rw [if_neg h];rw [getD_set_ne false (Ne.symm h)] at hl;exact hold j hl
theorem wpOp_of{L:Array Bool}{a:Act}{w:World}{i:Nat}{K':Act->World->Prop}{Q':Exit->Act->World->Prop}(hput:∀ i o,l[i]? = some o->∀ xs v,(p.F xs).put o.dst v=p.F (upd xs i v))(mv:∀ i j x w w',j≠i->reach l.toArray 6 j i=false->p.Ext i w w'->p.E j x w->p.E j x w')(hst:Steps P p l xs0 l 0)(hI:Inv p l xs0 L a w)(hr:i ∈ Region.ready .any l.toArray L)
  (h:∀ a' w',Inv p l xs0 (L.setIfInBounds i true) a' w'->K' a' w'):wpOp P l.toArray Q' i K' a w:=by
 obtain ⟨xs,rfl,hs,nw,hC,hv,hold⟩:=hI;have o0:=nw.next hr;obtain ⟨_,o,ho,_⟩:=mem_ready.1 hr;have mn:l[i]? = some o:=by simpa using ho
 have nJ:∀ {w':World},p.Ext i w w'->∀ j,j≠i->L.getD j false=true->p.E j (xs j) w->p.E j (xs j) w':=fun hx j oc hl hE=>by
  cases qU:reach l.toArray 6 j i with
  |false=>exact mv i j _ _ _ oc qU hx hE
  |true =>
   have h1:=nw.reach 6 j i hl qU;have h2:=(mem_ready.1 hr).1;have hlt:i<l.length:=(List.getElem?_eq_some_iff.1 mn).1;rw [bO (by rw [hs];exact hlt),h2] at h1
   cases h1
 have hstep:=steps_at l 0 hst i o mn;rw [Nat.zero_add] at hstep;unfold wpOp;simp only [ho]
 rcases hstep L w xs ⟨hs,nw,hr,hC,hv,hold⟩ with ⟨hw,hu⟩ | ⟨hw,qS,hE⟩
 ·rw [if_pos hw];refine .inl ?_;unfold Oper.wp;generalize (execOp (p.F xs).eval o).run P w=r at *
  cases r with
  |halt x w'=>exact hu.elim
  |ok n w' =>
   cases n <;> simp only [upon] at hu <;> simp only [Oper.upon]
   case value u =>
    obtain ⟨h1,h2,h3⟩:=hu;exact h _ _ (Inv.next hput mn hs o0 hv hold h1 h2 (nJ h3))
   case skip =>
    obtain ⟨h1,h2,h3⟩:=hu;exact h _ _ (Inv.next hput mn hs o0 hv hold h1 h2 (nJ h3))
   case enter f args =>
    exact hu.mono fun e w'' ⟨v,he,h1,h2,h3⟩=>by
     subst he;exact h _ _ (Inv.next hput mn hs o0 hv hold h1 h2 (nJ h3))
 ·rw [if_neg (by rw [hw];exact Bool.false_ne_true)];exact h _ _ (Inv.next hput mn hs o0 hv hold qS hE fun _ _ _ h=>h)
theorem any_of{Q':Exit->Act->World->Prop}(l9:cI (l++[default]) l.length=true)(hput:∀ i o,l[i]? = some o->∀ xs v,(p.F xs).put o.dst v=p.F (upd xs i v))(mv:∀ i j x w w',j≠i->reach l.toArray 6 j i=false->p.Ext i w w'->p.E j x w->p.E j x w')(hst:Steps P p l xs0 l 0)(hQ:∀ a w,Inv p l xs0 (Array.replicate l.length true) a w->Q' .normal a w) :
  ∀ (f:Nat) (L:Array Bool) (a:Act) (w:World),L.size=l.length->Inv p l xs0 L a w->aT l.length L=f->wpAny P .any l.toArray Q' f L a w:=by
 have hend:∀ (L:Array Bool) a w,L.size=l.length->Region.ready .any l.toArray L=[]->Inv p l xs0 L a w->Q' .normal a w:=by
  intro L a w hs hr hI;rw [Mix.all_listed l9 hs hr] at hI;exact hQ a w hI
 intro f
 induction f with
 |zero =>
  intro L a w hs hI hu;have hr:Region.ready .any l.toArray L=[]:=by
   cases hc:Region.ready .any l.toArray L with
   |nil=>rfl
   |cons i t =>
    have hi:i ∈ Region.ready .any l.toArray L:=by rw [hc];simp
    obtain ⟨h0,o,ho,_⟩:=mem_ready.1 hi;have hlt:i<l.length:=by simpa using (Array.getElem?_eq_some_iff.1 ho).1
    have:=bJ hu i hlt;rw [this] at h0
    cases h0
  exact ⟨hr,hend L a w hs hr hI⟩
 |succ f ih =>
  intro L a w hs hI hu;refine ⟨fun hr=>hend L a w hs hr hI,fun i hi=>wpOp_of hput mv hst hI hi fun a' w' hI'=>ih _ a' w' (by simpa using hs) hI' ?_⟩;obtain ⟨h0,o,ho,_⟩:=mem_ready.1 hi;have hlt:i<l.length:=by simpa using (Array.getElem?_eq_some_iff.1 ho).1
  have:=bU hs hlt h0;omega
theorem region{id:Nat}{Q:Exit->Act->World->Prop}{a:Act}{w:World}(p:Plan)(xs0:Nat->Value)(hm:P.follows .mixedOrders=true)(l9:cI (l++[default]) l.length=true)(h0:a=p.F xs0)(hC:p.C (Array.replicate l.length false) xs0 { w with drawn:=w.drawn+1 })
  (oW:Puts p l 0) (mv:∀ i j x w w',j≠i->reach l.toArray 6 j i=false->p.Ext i w w'->p.E j x w->p.E j x w') (hst:Steps P p l xs0 l 0)
  (hend:∀ xs w',p.C (Array.replicate l.length true) xs w'->(∀ j,j<l.length->p.E j (xs j) w')->Q .normal (p.F xs) w'):(Code.region id l.toArray true).wp P Q a w:=by
 refine wp_region_any hm ?_;have hput:∀ i o,l[i]? = some o->∀ xs v,(p.F xs).put o.dst v=p.F (upd xs i v):=fun i o ho=>by
  have:=puts_at l 0 oW i o ho
  rwa [Nat.zero_add] at this
 have:=any_of (Q':=Q) l9 hput mv hst (fun a w ⟨xs,e,_,_,hC,hv,_⟩=>by
  subst e;refine hend xs w hC fun j hj=>hv j hj ?_
  rw [Array.getD_eq_getD_getElem?,Array.getElem?_replicate,if_pos hj]
  rfl) l.length (Array.replicate l.length false) a { w with drawn:=w.drawn+1 } (by simp) ⟨xs0,h0,by simp,Closed.start _ _,hC,fun j hj hl=>(by rw [getD_replicate_false] at hl;cases hl),fun j _=>rfl⟩ (bA _)
 simpa using this
theorem puts_of{p:Plan}:∀ (m:List Oper) (k:Nat),(∀ j d,(dsts m)[j]? = some d->∀ xs v,(p.F xs).put d v=p.F (upd xs (k+j) v))->Puts p m k
 | [],_,_=>trivial
 | o :: m,k,h=>⟨fun xs v=>h 0 o.dst (by simp [dsts]) xs v,puts_of m (k+1) fun j d hd xs v=>by
  have:=h (j+1) d (by simpa [dsts] using hd) xs v
  rwa [show k+(j+1)=k+1+j by omega] at this⟩
theorem regionF{id:Nat}{Q:Exit->Act->World->Prop}{a:Act}{w:World}(m:Nat)(E:Nat->Value->World->Prop)(C:Array Bool->Value->World->Prop)(X:World->World->Prop)(st:∀ j x w w',X w w'->E j x w->E j x w')
  (hm:P.follows .mixedOrders=true) (l9:cI (l++[default]) l.length=true) (hap:bg (dsts l)=true) (hC:∀ x,C (Array.replicate l.length false) x { w with drawn:=w.drawn+1 })
  (H:∀ (F:(Nat->Value)->Act),(∀ xs,F xs=frame xs (dsts l) 0 a)->Steps P ⟨F,E,fun L xs w=>C L (xs m) w,fun _=>X⟩ l (fun i=>match (dsts l)[i]? with | some (some d)=>a.tmps.getD d undef | _=>undef) l 0 /\
   (∀ xs w',C (Array.replicate l.length true) (xs m) w'->(∀ j,j<l.length->E j (xs j) w')->Q .normal (F xs) w')):(Code.region id l.toArray true).wp P Q a w:=by
 obtain ⟨h1,h2⟩:=H (fun xs=>frame xs (dsts l) 0 a) (fun _=>rfl);refine region ⟨fun xs=>frame xs (dsts l) 0 a,E,fun L xs w=>C L (xs m) w,fun _=>X⟩ _ hm l9 (bN a hap) (hC _) (puts_of l 0 fun j d hd xs v=>?_) (fun i j x w w' _ _ hx h=>st j x w w' hx h) h1 h2;have:=cH xs v (dsts l) 0 a hap j d hd
 simpa using this
end
end RegC
end
section
namespace RegX
open Reg (upon upd Closed reach frame dsts bg cH bN bA g6 eE fN g8 eU)
structure Plan where
 F:(Nat->Value)->Act
 E:Nat->Value->World->Prop
 C:Array Bool->World->Prop
 Ext:Nat->World->World->Prop
structure Here (p:Plan) (l:List Oper) (xs0:Nat->Value) (i:Nat) (L:Array Bool) (w:World) (xs:Nat->Value):Prop where
 size:L.size=l.length
 closed:Closed l L
 ready:i ∈ Region.ready .any l.toArray L
 cls:p.C L w
 vals:∀ j,j<l.length->L.getD j false=true->p.E j (xs j) w
 olds:∀ j,L.getD j false=false->xs j=xs0 j
theorem Here.dep{p:Plan}{l:List Oper}{xs0:Nat->Value}{i:Nat}{L:Array Bool}{w:World}{xs:Nat->Value}(h:Here p l xs0 i L w xs)(j:Nat)(hj:reach l.toArray 6 i j=true):L.getD j false=true:=by
 obtain ⟨_,o,ho,hall⟩:=mem_ready.1 h.ready;unfold reach at hj;rw [Bool.or_eq_true] at hj
 rcases hj with hj | hj
 ·obtain ⟨o',mn,e,he,hb,sJ⟩:=Region.waitsFor_spec hj;obtain rfl:o=o':=Option.some.inj (ho.symm.trans mn);rw [<-sJ];exact hall e he hb
 ·rw [ho] at hj;obtain ⟨e,he,hb⟩:=Array.any_eq_true'.1 hj;rw [Bool.and_eq_true] at hb;exact h.closed.reach 5 e.on j (hall e he hb.1) hb.2
theorem Here.val{p:Plan}{l:List Oper}{xs0:Nat->Value}{i:Nat}{L:Array Bool}{w:World}{xs:Nat->Value}(h:Here p l xs0 i L w xs)(j:Nat)(hj:reach l.toArray 6 i j=true)(hl:decide (j<l.length)=true):p.E j (xs j) w :=
 h.vals j (of_decide_eq_true hl) (h.dep j hj)
theorem Here.un{p:Plan}{l:List Oper}{xs0:Nat->Value}{i:Nat}{L:Array Bool}{w:World}{xs:Nat->Value}(h:Here p l xs0 i L w xs):Mix.one L i=0:=Mix.one_ready h.ready
theorem Here.isDone{p:Plan}{l:List Oper}{xs0:Nat->Value}{i:Nat}{L:Array Bool}{w:World}{xs:Nat->Value}(h:Here p l xs0 i L w xs)(j:Nat)(hj:reach l.toArray 6 i j=true):Mix.one L j=1:=by
 unfold Mix.one;rw [if_pos (h.dep j hj)]
theorem Here.v{p:Plan}{l:List Oper}{xs0:Nat->Value}{i:Nat}{L:Array Bool}{w:World}{xs:Nat->Value}(h:Here p l xs0 i L w xs)(j:Nat)(hj:reach l.toArray 6 i j=true:=by kernel_rfl)(hl:decide (j<l.length)=true:=by kernel_rfl):p.E j (xs j) w:=h.val j hj hl
theorem Here.notYet{p:Plan}{l:List Oper}{xs0:Nat->Value}{i:Nat}{L:Array Bool}{w:World}{xs:Nat->Value}(h:Here p l xs0 i L w xs)(j:Nat)(hj:reach l.toArray 6 j i=true):L.getD j false=false:=by
 cases hl:L.getD j false with
 |false=>rfl
 |true =>
  have h1:=h.closed.reach 6 j i hl hj;have h2:=(mem_ready.1 h.ready).1;obtain ⟨o',mn,_⟩:=(mem_ready.1 h.ready).2;have hlt:i<l.length:=by simpa using (Array.getElem?_eq_some_iff.1 mn).1
  rw [bO (by rw [h.size];exact hlt),h2] at h1
  cases h1
theorem Here.old{p:Plan}{l:List Oper}{xs0:Nat->Value}{i:Nat}{L:Array Bool}{w:World}{xs:Nat->Value}(h:Here p l xs0 i L w xs)(j:Nat)(hj:reach l.toArray 6 j i=true):xs j=xs0 j:=h.olds j (h.notYet j hj)
def Step(P:Program)(p:Plan)(l:List Oper)(xs0:Nat->Value)(i:Nat)(o:Oper):Prop :=
 ∀ L w xs,Here p l xs0 i L w xs ->
  (Region.wanted o (yielded l.toArray (p.F xs).tmps)=true/\upon P (fun v w'=>p.C (L.setIfInBounds i true) w'/\p.E i v w'/\p.Ext i w w') ((execOp (p.F xs).eval o).run P w)) \/
  (Region.wanted o (yielded l.toArray (p.F xs).tmps)=false/\p.C (L.setIfInBounds i true) w/\p.E i undef w)
def Steps(P:Program)(p:Plan)(l:List Oper)(xs0:Nat->Value):List Oper->Nat->Prop
 | [],_=>True
 | o :: rest,i=>Step P p l xs0 i o/\Steps P p l xs0 rest (i+1)
def Puts(p:Plan):List Oper->Nat->Prop
 | [],_=>True
 | o :: rest,i=>(∀ xs v,(p.F xs).put o.dst v=p.F (upd xs i v))/\Puts p rest (i+1)
theorem puts_at{p:Plan}:∀ (m:List Oper) (k:Nat),Puts p m k->∀ j o,m[j]? = some o->∀ xs v,(p.F xs).put o.dst v=p.F (upd xs (k+j) v)
 |[],_,_,j,o,h=>by simp at h
 |q :: m,k,hs,j,o,h=>by
  cases j with
  |zero=>simp at h;subst h;exact hs.1
  |succ j =>
   have:=puts_at m (k+1) hs.2 j o (by simpa using h)
   rwa [show k+1+j=k+(j+1) by omega] at this
theorem steps_at{P:Program}{p:Plan}{l:List Oper}{xs0:Nat->Value}:∀ (m:List Oper) (k:Nat),Steps P p l xs0 m k->∀ j o,m[j]? = some o->Step P p l xs0 (k+j) o
 |[],_,_,j,o,h=>by simp at h
 |q :: m,k,hs,j,o,h=>by
  cases j with
  |zero=>simp at h;subst h;exact hs.1
  |succ j =>
   have:=steps_at m (k+1) hs.2 j o (by simpa using h)
   rwa [show k+1+j=k+(j+1) by omega] at this
section
variable {P : Program} {l : List Oper} {p : Plan} {xs0 : Nat → Value}
def Inv(p:Plan)(l:List Oper)(xs0:Nat->Value)(L:Array Bool)(a:Act)(w:World):Prop:=∃ xs,a=p.F xs/\L.size=l.length/\Closed l L/\p.C L w/\(∀ j,j<l.length->L.getD j false=true->p.E j (xs j) w)/\∀ j,L.getD j false=false->xs j=xs0 j
theorem Inv.next{L:Array Bool}{w w':World}{xs:Nat->Value}{i:Nat}{o:Oper}{v:Value}(hput:∀ i o,l[i]? = some o->∀ xs v,(p.F xs).put o.dst v=p.F (upd xs i v))(ho:l[i]? = some o)(hs:L.size=l.length)(hc:Closed l (L.setIfInBounds i true))
  (hv:∀ j,j<l.length->L.getD j false=true->p.E j (xs j) w) (hold:∀ j,L.getD j false=false->xs j=xs0 j) (hC:p.C (L.setIfInBounds i true) w') (hE:p.E i v w') (hx:∀ j,j≠i->L.getD j false=true->p.E j (xs j) w->p.E j (xs j) w'):Inv p l xs0 (L.setIfInBounds i true) ((p.F xs).put o.dst v) w':=by
 refine ⟨upd xs i v,hput i o ho xs v,by simpa using hs,hc,hC,fun j hj hl=>?_,fun j hl=>?_⟩
 ·unfold upd
  by_cases h:j=i
  ·subst h;rw [if_pos rfl];exact hE
  ·rw [if_neg h];rw [getD_set_ne false (Ne.symm h)] at hl;exact hx j h hl (hv j hj hl)
 ·unfold upd
  by_cases h:j=i
  ·subst h;have hlt:j<L.size:=by rw [hs];exact (List.getElem?_eq_some_iff.1 ho).1
   rw [Array.getD_eq_getD_getElem?,Array.getElem?_setIfInBounds_self_of_lt hlt] at hl
   cases hl
  ·rw [if_neg h];rw [getD_set_ne false (Ne.symm h)] at hl;exact hold j hl
theorem wpOp_of{L:Array Bool}{a:Act}{w:World}{i:Nat}{K':Act->World->Prop}{Q':Exit->Act->World->Prop}(hput:∀ i o,l[i]? = some o->∀ xs v,(p.F xs).put o.dst v=p.F (upd xs i v))(mv:∀ i j x w w',j≠i->reach l.toArray 6 j i=false->p.Ext i w w'->p.E j x w->p.E j x w')(hst:Steps P p l xs0 l 0)(hI:Inv p l xs0 L a w)(hr:i ∈ Region.ready .any l.toArray L)
  (h:∀ a' w',Inv p l xs0 (L.setIfInBounds i true) a' w'->K' a' w'):wpOp P l.toArray Q' i K' a w:=by
 obtain ⟨xs,rfl,hs,nw,hC,hv,hold⟩:=hI;have o0:=nw.next hr;obtain ⟨_,o,ho,_⟩:=mem_ready.1 hr;have mn:l[i]? = some o:=by simpa using ho
 have nJ:∀ {w':World},p.Ext i w w'->∀ j,j≠i->L.getD j false=true->p.E j (xs j) w->p.E j (xs j) w':=fun hx j oc hl hE=>by
  cases qU:reach l.toArray 6 j i with
  |false=>exact mv i j _ _ _ oc qU hx hE
  |true =>
   have h1:=nw.reach 6 j i hl qU;have h2:=(mem_ready.1 hr).1;have hlt:i<l.length:=(List.getElem?_eq_some_iff.1 mn).1;rw [bO (by rw [hs];exact hlt),h2] at h1
   cases h1
 have hstep:=steps_at l 0 hst i o mn;rw [Nat.zero_add] at hstep;unfold wpOp;simp only [ho]
 rcases hstep L w xs ⟨hs,nw,hr,hC,hv,hold⟩ with ⟨hw,hu⟩ | ⟨hw,qS,hE⟩
 ·rw [if_pos hw];refine .inl ?_;unfold Oper.wp;generalize (execOp (p.F xs).eval o).run P w=r at *
  cases r with
  |halt x w'=>exact hu.elim
  |ok n w' =>
   cases n <;> simp only [upon] at hu <;> simp only [Oper.upon]
   case value u =>
    obtain ⟨h1,h2,h3⟩:=hu;exact h _ _ (Inv.next hput mn hs o0 hv hold h1 h2 (nJ h3))
   case skip =>
    obtain ⟨h1,h2,h3⟩:=hu;exact h _ _ (Inv.next hput mn hs o0 hv hold h1 h2 (nJ h3))
   case enter f args =>
    exact hu.mono fun e w'' ⟨v,he,h1,h2,h3⟩=>by
     subst he;exact h _ _ (Inv.next hput mn hs o0 hv hold h1 h2 (nJ h3))
 ·rw [if_neg (by rw [hw];exact Bool.false_ne_true)];exact h _ _ (Inv.next hput mn hs o0 hv hold qS hE fun _ _ _ h=>h)
theorem any_of{Q':Exit->Act->World->Prop}(l9:cI (l++[default]) l.length=true)(hput:∀ i o,l[i]? = some o->∀ xs v,(p.F xs).put o.dst v=p.F (upd xs i v))(mv:∀ i j x w w',j≠i->reach l.toArray 6 j i=false->p.Ext i w w'->p.E j x w->p.E j x w')(hst:Steps P p l xs0 l 0)(hQ:∀ a w,Inv p l xs0 (Array.replicate l.length true) a w->Q' .normal a w) :
  ∀ (f:Nat) (L:Array Bool) (a:Act) (w:World),L.size=l.length->Inv p l xs0 L a w->aT l.length L=f->wpAny P .any l.toArray Q' f L a w:=by
 have hend:∀ (L:Array Bool) a w,L.size=l.length->Region.ready .any l.toArray L=[]->Inv p l xs0 L a w->Q' .normal a w:=by
  intro L a w hs hr hI;rw [Mix.all_listed l9 hs hr] at hI;exact hQ a w hI
 intro f
 induction f with
 |zero =>
  intro L a w hs hI hu;have hr:Region.ready .any l.toArray L=[]:=by
   cases hc:Region.ready .any l.toArray L with
   |nil=>rfl
   |cons i t =>
    have hi:i ∈ Region.ready .any l.toArray L:=by rw [hc];simp
    obtain ⟨h0,o,ho,_⟩:=mem_ready.1 hi;have hlt:i<l.length:=by simpa using (Array.getElem?_eq_some_iff.1 ho).1
    have:=bJ hu i hlt;rw [this] at h0
    cases h0
  exact ⟨hr,hend L a w hs hr hI⟩
 |succ f ih =>
  intro L a w hs hI hu;refine ⟨fun hr=>hend L a w hs hr hI,fun i hi=>wpOp_of hput mv hst hI hi fun a' w' hI'=>ih _ a' w' (by simpa using hs) hI' ?_⟩;obtain ⟨h0,o,ho,_⟩:=mem_ready.1 hi;have hlt:i<l.length:=by simpa using (Array.getElem?_eq_some_iff.1 ho).1
  have:=bU hs hlt h0;omega
theorem region{id:Nat}{Q:Exit->Act->World->Prop}{a:Act}{w:World}(p:Plan)(xs0:Nat->Value)(hm:P.follows .mixedOrders=true)(l9:cI (l++[default]) l.length=true)(h0:a=p.F xs0)(hC:p.C (Array.replicate l.length false) { w with drawn:=w.drawn+1 })
  (oW:Puts p l 0) (mv:∀ i j x w w',j≠i->reach l.toArray 6 j i=false->p.Ext i w w'->p.E j x w->p.E j x w') (hst:Steps P p l xs0 l 0)
  (hend:∀ xs w',p.C (Array.replicate l.length true) w'->(∀ j,j<l.length->p.E j (xs j) w')->Q .normal (p.F xs) w'):(Code.region id l.toArray true).wp P Q a w:=by
 refine wp_region_any hm ?_;have hput:∀ i o,l[i]? = some o->∀ xs v,(p.F xs).put o.dst v=p.F (upd xs i v):=fun i o ho=>by
  have:=puts_at l 0 oW i o ho
  rwa [Nat.zero_add] at this
 have:=any_of (Q':=Q) l9 hput mv hst (fun a w ⟨xs,e,_,_,hC,hv,_⟩=>by
  subst e;refine hend xs w hC fun j hj=>hv j hj ?_
  rw [Array.getD_eq_getD_getElem?,Array.getElem?_replicate,if_pos hj]
  rfl) l.length (Array.replicate l.length false) a { w with drawn:=w.drawn+1 } (by simp) ⟨xs0,h0,by simp,Closed.start _ _,hC,fun j hj hl=>(by rw [getD_replicate_false] at hl;cases hl),fun j _=>rfl⟩ (bA _)
 simpa using this
theorem puts_of{p:Plan}:∀ (m:List Oper) (k:Nat),(∀ j d,(dsts m)[j]? = some d->∀ xs v,(p.F xs).put d v=p.F (upd xs (k+j) v))->Puts p m k
 | [],_,_=>trivial
 | o :: m,k,h=>⟨fun xs v=>h 0 o.dst (by simp [dsts]) xs v,puts_of m (k+1) fun j d hd xs v=>by
  have:=h (j+1) d (by simpa [dsts] using hd) xs v
  rwa [show k+(j+1)=k+1+j by omega] at this⟩
theorem regionF{id:Nat}{Q:Exit->Act->World->Prop}{a:Act}{w:World}(E:Nat->Value->World->Prop)(C:Array Bool->World->Prop)(X:Nat->World->World->Prop)(st:∀ i j x w w',j≠i->reach l.toArray 6 j i=false->X i w w'->E j x w->E j x w')
  (hm:P.follows .mixedOrders=true) (l9:cI (l++[default]) l.length=true) (hap:bg (dsts l)=true) (hC:C (Array.replicate l.length false) { w with drawn:=w.drawn+1 })
  (H:∀ (F:(Nat->Value)->Act),(∀ xs,F xs=frame xs (dsts l) 0 a)->Steps P ⟨F,E,C,X⟩ l (fun i=>match (dsts l)[i]? with | some (some d)=>a.tmps.getD d undef | _=>undef) l 0 /\
   (∀ xs w',C (Array.replicate l.length true) w'->(∀ j,j<l.length->E j (xs j) w')->Q .normal (F xs) w')):(Code.region id l.toArray true).wp P Q a w:=by
 obtain ⟨h1,h2⟩:=H (fun xs=>frame xs (dsts l) 0 a) (fun _=>rfl);refine region ⟨fun xs=>frame xs (dsts l) 0 a,E,C,X⟩ _ hm l9 (bN a hap) hC (puts_of l 0 fun j d hd xs v=>?_) st h1 h2;have:=cH xs v (dsts l) 0 a hap j d hd
 simpa using this
end
end RegX
end
section
theorem But.drew{g B:Nat}{w w':World}(h:But g B w w'):But g B w w'.drew:=⟨h.os,h.tape,h.output,h.size,h.block⟩
theorem bz(g:Nat)(t:TypeId):∀ (vs pre old:List Value) (w:World),Has w g (pre++old) t->old.length=vs.length->Has (w.setCells g pre.length vs) g (pre++vs) t
 |[],pre,old,w,h,hl=>by
  have:old=[]:=List.eq_nil_of_length_eq_zero hl;subst this;exact h
 |v :: vs,pre,old,w,h,hl=>by
  cases old with
  |nil=>simp at hl
  |cons o old =>
   have h1:=h.set pre.length v;rw [List.set_append_right _ _ (Nat.le_refl _),Nat.sub_self,List.set_cons_zero] at h1;have h2:=bz g t vs (pre++[v]) old (w.setCell ⟨g,pre.length,none⟩ v) (by simpa using h1) (by simpa using hl)
   simpa [World.setCells] using h2
theorem aY(g B:Nat)(w:World):∀ (vs:List Value) (o:Nat) (w':World),But g B w w'->But g B w (w'.setCells g o vs)
 | [],_,_,h=>h
 | v :: vs,o,w',h=>aY g B w vs (o+1) _ (h.set o v)
theorem dt{w:World}{g:Nat}{C:List Value}{t:TypeId}(h:Has w g C t)(n:Nat)(hn:n<=C.length):w.there g 0 n:=fun j hj=>by
 rw [Nat.zero_add,h.cell j (C[j]'(by omega)) (List.getElem?_eq_getElem _)];exact ⟨rfl,h.free j⟩
section
variable {P : Program}
theorem be{ops:Array Oper}{rest:List Oper}{o:Oper}{a:Act}{w:World}{Q:Exit->Act->World->Prop}(hgd:o.guard=none)(ty:TypeId)(x:Operand)(ho:o.op=.load ty x)
  (g:Nat) (hx:a.eval x=.pointer (some ⟨g,0,none⟩)) (t:TypeId) (C:List Value) (d:TypeDesc) (n:Nat) (hg:Has w g C t)
  (hu:P.underlying ty=some d) (hd:(match d with | .struct _ | .array _ _=>true | _=>false)=true) (hi:(P.info? ty).map (·.size)=some n) (hn:C.length=n)
  (h:wpList P ops Q rest (a.put o.dst (.agg C.toArray)) w):wpList P ops Q (o :: rest) a w :=
 wpList_load_row hgd ty x ho g hx t C.toArray (0,0) d hg hu hd (by rw [hi];simp [hn]) h
theorem cG{ops:Array Oper}{rest:List Oper}{o:Oper}{a:Act}{w:World}{Q:Exit->Act->World->Prop}(hgd:o.guard=none)(ty:TypeId)(x y:Operand)(ho:o.op=.store ty x y)
  (g:Nat) (hx:a.eval x=.pointer (some ⟨g,0,none⟩)) (t:TypeId) (old C:List Value) (n:Nat) (hy:a.eval y=.agg C.toArray) (hg:Has w g old t)
  (hi:(P.info? ty).map (·.size)=some n) (mn:old.length=n) (hn:C.length=n) (h1:∀ v ∈ C,v.oneCell'=true)
  (h:∀ w',Has w' g C t->But g w.heap.size w w'->wpList P ops Q rest (a.put o.dst undef) w'):wpList P ops Q (o :: rest) a w:=by
 refine wpList_store_mid hgd ty x y ho g 0 C.toArray hx hy (dt hg _ (by simp;omega)) (by rw [hi];simp [hn]) (all_oneCell_toArray h1) ?_;have h2:=bz g t C [] old w hg (by omega);exact h _ (by simpa using h2) (aY g w.heap.size w C 0 w (But.refl _ _ _))
theorem g5{fn:Func}{p:Tmp}{ty:TypeId}(h:fn.results=#[.cell p ty])(tmps:Array Value)(w:World)(g:Nat)(t:TypeId)(C:List Value)(d:TypeDesc)(n:Nat)
  (hp:tmps.getD p undef=.pointer (some ⟨g,0,none⟩)) (hg:Has w g C t)
  (hu:P.underlying ty=some d) (hd:(match d with | .struct _ | .array _ _=>true | _=>false)=true) (hi:(P.info? ty).map (·.size)=some n) (hn:C.length=n) :
  (results fn tmps).run P w=.ok (.agg C.toArray) w :=
 results_cell_row h tmps w g t C.toArray (0,0) d hp hg hu hd (by rw [hi];simp [hn])
end
end
section
structure Upd (S:an) (w w':World):Prop where
 os:w'.os=w.os
 tape:w'.tape=w.tape
 output:w'.output=w.output
 size:w.heap.size<=w'.heap.size
 block:∀ b,b<w.heap.size->¬ S b->w'.heap[b]? = w.heap[b]?
theorem Upd.refl(S:an)(w:World):Upd S w w:=⟨rfl,rfl,rfl,Nat.le_refl _,fun _ _ _=>rfl⟩
theorem Upd.trans{S:an}{a b c:World}(h:Upd S a b)(k:Upd S b c):Upd S a c :=
 ⟨k.os.trans h.os,k.tape.trans h.tape,k.output.trans h.output,Nat.le_trans h.size k.size,fun i hi hs=>(k.block i (Nat.lt_of_lt_of_le hi h.size) hs).trans (h.block i hi hs)⟩
theorem Upd.mono{S T:an}{w w':World}(h:Upd S w w')(hs:∀ b,b<w.heap.size->S b->T b):Upd T w w':=⟨h.os,h.tape,h.output,h.size,fun b hb ht=>h.block b hb fun hs'=>ht (hs b hb hs')⟩
theorem Upd.ofBelow{S:an}{w w':World}(h:Below w.heap.size w w'):Upd S w w':=⟨h.os,h.tape,h.output,h.size,fun b hb _=>h.block b hb⟩
theorem Upd.below{S:an}{B:Nat}{w w':World}(h:Upd S w w')(hB:B<=w.heap.size)(hs:∀ b,S b->B<=b):Below B w w' :=
 ⟨h.os,h.tape,h.output,h.size,fun b hb=>h.block b (by omega) fun k=>by have:=hs b k;omega⟩
theorem Upd.keep{S:an}{w w':World}(h:Upd S w w'):KeepZ (fun b=>¬ S b) w w':=⟨h.size,h.block⟩
theorem Upd.ofBut{g:Nat}{w w':World}(h:But g w.heap.size w w'):Upd (fun b=>b=g) w w':=⟨h.os,h.tape,h.output,h.size,fun b hb hn=>h.block b hb hn⟩
theorem Upd.setCell{S:an}{a w:World}(h:Upd S a w){p:Addr}(hp:S p.block\/a.heap.size<=p.block)(u:Value):Upd S a (w.setCell p u) :=
 ⟨h.os,h.tape,h.output,by rw [World.size_setCell];exact h.size,fun b hb hn=>by rw [heap_setCell_other w p b u (fun e=>by subst e;rcases hp with hp | hp;exact hn hp;omega)];exact h.block b hb hn⟩
theorem Upd.alloc{S:an}{a w:World}(h:Upd S a w)(o:Obj):Upd S a (w.alloc o):=h.trans (.ofBelow (l7 _ o))
theorem Upd.drew{S:an}{a w:World}(h:Upd S a w):Upd S a w.drew:=⟨h.os,h.tape,h.output,h.size,h.block⟩
theorem _root_.Go.RowKit.Below.upd{S:an}{B:Nat}{a b c:World}(h:Below B a b)(k:Upd S b c)(hB:B<=b.heap.size)(hs:∀ x,S x->B<=x):Below B a c:=h.trans (k.below hB hs)
section
variable {α : Type} {E : Elem α} {Z Y : an} {w w' : World} {v u : Value} {L M : List α} {B : Nat} {ty : TypeId}
theorem HeldE.upd{S:an}(h:HeldE E Z w v L)(hk:Upd S w w')(hs:∀ b,Z b->¬ S b):HeldE E Z w' v L:=h.kept (hk.keep.mono fun b _ hz=>hs b hz)
theorem OwnE.upd{S:an}(h:OwnE E Z w B ty v L)(hk:Upd S w w')(hs:∀ b,Z b\/v.ownBlock=some b->¬ S b):OwnE E Z w' B ty v L:=h.keep (hk.keep.mono fun b _ hz=>hs b hz) fun _ _ hz=>hz
theorem fL{Zi:Nat->an}{CS:List (List Value)}(hl:CS.length=L.length)(h:∀ i,i<L.length->E.rep (Zi i) w (CS.getD i []) (L.getD i E.zero)):∀ C ∈ CS,C.length=E.size:=by
 intro C hC;obtain ⟨i,hi,rfl⟩:=List.getElem_of_mem hC;have:=E.len (h i (by omega))
 rwa [show CS.getD i []=CS[i] from by simp [List.getD,List.getElem?_eq_getElem hi]] at this
def OwnI(E:Elem α)(Zi:Nat->an)(w:World)(B:Nat)(ty:TypeId)(v:Value)(L:List α):Prop :=
 ∃ CS:List (List Value),w.ownsRow B ty E.size v L.length CS.flatten/\CS.length=L.length/\∀ i,i<L.length->E.rep (fun b=>Zi i b/\v.ownBlock≠some b) w (CS.getD i []) (L.getD i E.zero)
theorem OwnE.each(h:OwnE E Z w B ty v L):OwnI E (fun _=>Z) w B ty v L:=h
theorem OwnI.all{Zi:Nat->an}(h:OwnI E Zi w B ty v L)(hz:∀ i b,i<L.length->b<w.heap.size->Zi i b->Z b):OwnE E Z w B ty v L:=by
 obtain ⟨CS,h1,h2,h3⟩:=h;exact ⟨CS,h1,h2,fun i hi=>E.keep (.refl _ _) (fun b hb k=>⟨hz i b hi hb k.1,k.2⟩) (h3 i hi)⟩
theorem OwnI.keep{Zi Yi:Nat->an}(h:OwnI E Zi w B ty v L)(hk:KeepZ (fun b=>(∃ i,i<L.length/\Zi i b)\/v.ownBlock=some b) w w')(hy:∀ i b,i<L.length->b<w.heap.size->Zi i b->Yi i b):OwnI E Yi w' B ty v L:=by
 obtain ⟨CS,h1,h2,h3⟩:=h;exact ⟨CS,hk.own h1 fun b hb=>.inr hb,h2,fun i hi=>E.keep (hk.mono fun b _ hz=>.inl ⟨i,hi,hz.1⟩) (fun b hb hz=>⟨hy i b hi hb hz.1,hz.2⟩) (h3 i hi)⟩
theorem OwnI.below{Zi:Nat->an}(h:OwnI E Zi w B ty v L)(hb:Below w.heap.size w w'):OwnI E Zi w' B ty v L:=h.keep (.all hb _) fun _ _ _ _ hz=>hz
theorem OwnI.lt{Zi:Nat->an}(h:OwnI E Zi w B ty v L):∀ k,v.ownBlock=some k->B<=k/\k<w.heap.size:=by
 obtain ⟨CS,h,_⟩:=h;exact h.lt
theorem OwnI.at{Zi:Nat->an}{g cap n:Nat}(h:OwnI E Zi w B ty (.slice (some ⟨g,0,none⟩) n cap) L){i:Nat}(hi:i<L.length):∃ C,(∀ j,j<E.size->w.cell? ⟨g,i * E.size+j,none⟩=C[j]? /\ w.frozen? ⟨g,i * E.size+j,none⟩=false)/\E.rep (fun b=>Zi i b/\b≠g) w C (L.getD i E.zero):=by
 obtain ⟨CS,h1,h2,h3⟩:=h;have hn:n=L.length:=by
  rcases h1.2 with ⟨h',_⟩ | ⟨g',cap',cur,h',_⟩
  ·simp at h'
  ·simp only [Value.slice.injEq] at h';exact h'.2.1
 subst hn;have na:=fL h2 (Zi:=fun i b=>Zi i b/\_) h3;refine ⟨CS.getD i [],fun j hj=>⟨?_,h1.frozenAt _⟩,E.keep (.refl _ _) (fun b _ hz=>⟨hz.1,fun e=>hz.2 (by subst e;rfl)⟩) (h3 i hi)⟩;rw [h1.cellAt (i * E.size+j) (by
   have:i * E.size+E.size<=L.length * E.size:=by rw [<-Nat.succ_mul];exact Nat.mul_le_mul_right _ hi
   omega)]
 exact cP na i j (by omega) hj
theorem dQ{g n cap size:Nat}:∀ (vs:List Value) (o:Nat) (xs:List Value) (w:World),w.ownsRow B ty size (.slice (some ⟨g,0,none⟩) n cap) n xs->o+vs.length<=xs.length ->
  (w.setCells g o vs).ownsRow B ty size (.slice (some ⟨g,0,none⟩) n cap) n (xs.take o++vs++xs.drop (o+vs.length))
 |[],o,xs,w,h,_=>by simpa [World.setCells] using h
 |v :: vs,o,xs,w,h,hl=>by
  simp only [List.length_cons] at hl;have h1:=(h.stored o v).1;have h2:=dQ vs (o+1) (xs.set o v) (w.setCell ⟨g,o,none⟩ v) h1 (by simp;omega);have e:(xs.set o v).take (o+1)++vs++(xs.set o v).drop (o+1+vs.length)=xs.take o++(v :: vs)++xs.drop (o+(v :: vs).length):=by
   rw [List.take_succ_eq_append_getElem (by simp;omega),List.take_set_of_le (Nat.le_refl _),List.drop_set_of_lt (by omega)]
   simp [List.length_cons,Nat.add_assoc,Nat.add_comm 1 vs.length]
  rw [e] at h2;exact h2
theorem gZ{s:Nat}:∀ {CS:List (List Value)},(∀ C ∈ CS,C.length=s)->∀ (i:Nat) (C:List Value),i<CS.length->C.length=s->CS.flatten.take (i * s)++C++CS.flatten.drop (i * s+s)=(CS.set i C).flatten
 |[],_,i,_,hi,_=>absurd hi (Nat.not_lt_zero _)
 |D :: CS,h,0,C,_,hC=>by
  have hD:=h D (by simp);simp only [List.flatten_cons,Nat.zero_mul,List.take_zero,List.nil_append,Nat.zero_add,List.set_cons_zero];rw [<-hD,List.drop_left]
 |D :: CS,h,i+1,C,hi,hC=>by
  have hD:=h D (by simp);have ih:=gZ (fun E hE=>h E (List.mem_cons_of_mem _ hE)) i C (by simpa using hi) hC;have e1:(i+1) * s=D.length+i * s:=by rw [hD,Nat.add_mul];omega
  simp only [List.flatten_cons,List.set_cons_succ];rw [e1,List.take_length_add_append,show D.length+i * s+s=D.length+(i * s+s) by omega,List.drop_length_add_append,<-ih]
  simp [List.append_assoc]
theorem OwnI.put{Zi:Nat->an}{g n cap:Nat}(h:OwnI E Zi w B ty (.slice (some ⟨g,0,none⟩) n cap) L){i:Nat}(hi:i<L.length)(C:List Value)(x:α)(hr:E.rep (fun b=>Y b/\b≠g) w C x) :
  OwnI E (fun j=>if j=i then Y else Zi j) (w.setCells g (i * E.size) C) B ty (.slice (some ⟨g,0,none⟩) n cap) (L.set i x)/\Upd (fun b=>b=g) w (w.setCells g (i * E.size) C):=by
 have hu:Upd (fun b=>b=g) w (w.setCells g (i * E.size) C):=.ofBut (aY g w.heap.size w C _ w (But.refl _ _ _));refine ⟨?_,hu⟩;obtain ⟨CS,h1,h2,h3⟩:=h;have hn:n=L.length:=by
  rcases h1.2 with ⟨h',_⟩ | ⟨g',cap',cur,h',_⟩
  ·simp at h'
  ·simp only [Value.slice.injEq] at h';exact h'.2.1
 subst hn;have na:=fL h2 (Zi:=fun i b=>Zi i b/\_) h3;have hC:=E.len hr;have h4:=dQ C (i * E.size) CS.flatten w h1 (by rw [bw na,h2,hC,<-Nat.succ_mul];exact Nat.mul_le_mul_right _ hi);rw [hC,gZ na i C (by omega) hC] at h4;refine ⟨CS.set i C,by rw [List.length_set];exact h4,by simp [h2],fun j hj=>?_⟩;simp only [List.length_set] at hj;have hk:KeepZ (fun b=>b≠g) w (w.setCells g (i * E.size) C):=hu.keep
 by_cases e:j=i
 ·subst e;rw [show (CS.set j C).getD j []=C from by simp [List.getD,List.getElem?_set_self (show j<CS.length by omega)],show (L.set j x).getD j E.zero=x from by simp [List.getD,List.getElem?_set_self hi]];simp only [if_true];exact E.keep (hk.mono fun b _ hz=>hz.2) (fun b _ hz=>⟨hz.1,fun e=>hz.2 (by simpa [Value.ownBlock] using e.symm)⟩) hr
 ·rw [show (CS.set i C).getD j []=CS.getD j [] from by simp [List.getD,List.getElem?_set_ne (Ne.symm e)],show (L.set i x).getD j E.zero=L.getD j E.zero from by simp [List.getD,List.getElem?_set_ne (Ne.symm e)]];simp only [if_neg e];exact E.keep (hk.mono fun b _ hz=>fun e=>hz.2 (by subst e;rfl)) (fun b _ hz=>hz) (h3 j hj)
theorem OwnI.there{Zi:Nat->an}{g n cap:Nat}(h:OwnI E Zi w B ty (.slice (some ⟨g,0,none⟩) n cap) L){i:Nat}(hi:i<L.length):w.there g (i * E.size) E.size:=by
 obtain ⟨C,h1,h2⟩:=h.at hi;intro j hj;obtain ⟨h3,h4⟩:=h1 j hj;rw [h3];exact ⟨by rw [List.getElem?_eq_getElem (by rw [E.len h2];exact hj)];rfl,h4⟩
end
end
def ai(r:Int):Bool:=decide (0<=r) && decide (r<=1114111) && (decide (r<55296) || decide (57343<r))
theorem validB_true{r:Int}:ai r=true↔(0<=r/\r<=1114111/\(r<55296\/57343<r)):=by
 unfold ai;simp [and_assoc]
def aJ(r:Int):Int:=if ai r=false then 0 else if r<128 then 1 else if r<2048 then 2 else if r<65536 then 3 else 4
def aj(r:Int):List Int :=
 if ai r=false then [] else if r<128 then [r] else if r<2048 then [192+r / 64,128+r % 64]
 else if r<65536 then [224+r / 4096,128+r / 64 % 64,128+r % 64] else [240+r / 262144,128+r / 4096 % 64,128+r / 64 % 64,128+r % 64]
theorem eg(r:Int):(aj r).length<=4:=by
 unfold aj
 repeat' split
 all_goals simp
theorem Tryd.info5:(Tryd.prog.info? 5).map (fun i=>(i.zero,i.size,i.bytes))=some (some (.int .u8 0),1,1):=by kernel_rfl
theorem gV(r:Int):∀ x ∈ aj r,0<=x/\x<256:=by
 cases hv:ai r with
 |false=>simp [aj,hv]
 |true =>
  have hr:=validB_true.1 hv;unfold aj;rw [if_neg (by simp [hv])];intro x hx
  repeat' split at hx
  all_goals simp at hx
  all_goals omega
section
open Go.Joins Go.Deep
structure Pr where
 br:Int
 pc:Bool
 cv:Int
 ea:Int
def HeldP(w:World)(v:Value)(xs:List Pr):Prop :=
 ∃ ao cap,v=.slice ao xs.length cap/\∀ i (h:i<xs.length),∃ b off,ao=some ⟨b,off,none⟩/\b<w.heap.size/\w.cell? ⟨b,off+i * 4,none⟩=some (.int .i64 xs[i].br)/\w.cell? ⟨b,off+i * 4+1,none⟩=some (.bool xs[i].pc) /\
  w.cell? ⟨b,off+i * 4+2,none⟩=some (.int .i64 xs[i].cv)/\w.cell? ⟨b,off+i * 4+3,none⟩=some (.int .i64 xs[i].ea)
theorem HeldP.below{w w':World}{v:Value}{xs:List Pr}(h:HeldP w v xs)(hb:Below w.heap.size w w'):HeldP w' v xs:=by
 obtain ⟨ao,cap,rfl,hc⟩:=h;refine ⟨ao,cap,rfl,fun i hi=>?_⟩;obtain ⟨b,off,rfl,hlt,h1,h2,h3,h4⟩:=hc i hi;exact ⟨b,off,rfl,by have:=hb.size;omega,(hb.cell (p:=⟨b,_,none⟩) hlt).trans h1,(hb.cell (p:=⟨b,_,none⟩) hlt).trans h2,(hb.cell (p:=⟨b,_,none⟩) hlt).trans h3,(hb.cell (p:=⟨b,_,none⟩) hlt).trans h4⟩
theorem HeldP.view{w:World}{v:Value}{xs:List Pr}(h:HeldP w v xs):∃ ao cap,v=.slice ao xs.length cap/\∀ i (h:i<xs.length),∃ b off,ao=some ⟨b,off,none⟩/\b<w.heap.size/\w.cell? ⟨b,off+i * 4,none⟩=some (.int .i64 xs[i].br)/\w.cell? ⟨b,off+i * 4+1,none⟩=some (.bool xs[i].pc) /\
 w.cell? ⟨b,off+i * 4+2,none⟩=some (.int .i64 xs[i].cv)/\w.cell? ⟨b,off+i * 4+3,none⟩=some (.int .i64 xs[i].ea):=h
def Pr.none:Pr:=⟨0,false,0,0⟩
theorem HeldP.at{w:World}{ao:Option Addr}{n cap:Nat}{xs:List Pr}(h:HeldP w (.slice ao n cap) xs):n=xs.length/\∀ i,i<xs.length->∃ b off,ao=some ⟨b,off,none⟩/\b<w.heap.size/\w.cell? ⟨b,off+i * 4,none⟩=some (.int .i64 (xs.getD i Pr.none).br)/\w.cell? ⟨b,off+i * 4+1,none⟩=some (.bool (xs.getD i Pr.none).pc) /\
  w.cell? ⟨b,off+i * 4+2,none⟩=some (.int .i64 (xs.getD i Pr.none).cv)/\w.cell? ⟨b,off+i * 4+3,none⟩=some (.int .i64 (xs.getD i Pr.none).ea):=by
 obtain ⟨ao',cap',e,hc⟩:=h
 cases e
 refine ⟨rfl,fun i hi=>?_⟩;have:=hc i hi;rw [show xs[i]=xs.getD i Pr.none by simp [List.getD,List.getElem?_eq_getElem hi]] at this;exact this
end
end Go.Proofs.YtechjomepdahiaaDoor
namespace Go.Proofs.YtechjomepdahiaaDoor
def apart(T U:List (Int × Int)):Bool:=T.all fun p=>U.all fun q=>decide (p.2<q.1) || decide (q.2<p.1)
def l4(T U:List (Int × Int)):Bool:=T.all fun p=>U.any fun q=>decide (q.1<=p.1) && decide (p.2<=q.2)
def kQ:List (Int × Int):=[
 (0,9),(11,12),(14,31),(127,159),(173,173),(1564,1564),(6158,6158),(8203,8203),(8206,8207),(8232,8238),(8288,8303),
 (65279,65279),(65520,65531),(917504,917535),(917632,917759),(918000,921599)]
def ly:List (Int × Int):=[
 (768,879),(1155,1161),(1425,1469),(1471,1471),(1473,1474),(1476,1477),(1479,1479),(1552,1562),(1611,1631),(1648,1648),
 (1750,1756),(1759,1764),(1767,1768),(1770,1773),(1809,1809),(1840,1866),(1958,1968),(2027,2035),(2070,2073),(2075,2083),
 (2259,2273),(2275,2306),(2362,2362),(2364,2364),(2369,2376),(2381,2381),(2385,2391),(2402,2403),(2433,2433),(2492,2492),
 (2494,2494),(2497,2500),(2509,2509),(2519,2519),(2530,2531),(2561,2562),(2620,2620),(2625,2626),(2631,2632),(2635,2637),
 (2748,2748),(2753,2757),(2765,2765),(2876,2876),(2878,2879),(2881,2884),(2893,2893),(2902,2903),(3132,3132),(3134,3136),
 (3142,3144),(3146,3149),(3276,3277),(3390,3390),(3393,3396),(3405,3405),(3633,3633),(3636,3642),(3655,3662),(3761,3761),
 (3764,3772),(3864,3865),(3953,3966),(4957,4959),(6832,6862),(7616,7679),(8204,8204),(8400,8432),(12330,12335),(12441,12442),
 (42607,42610),(64286,64286),(65024,65039),(65056,65071),(127995,127999),(917536,917631),(917760,917999)]
def kR:List (Int × Int):=[
 (1536,1541),(1757,1757),(1807,1807),(2192,2193),(2274,2274),(3406,3406),(69821,69821),(69837,69837)]
def kS:List (Int × Int):=[
 (2307,2307),(2363,2363),(2366,2368),(2377,2380),(2382,2383),(2434,2435),(2495,2496),(2503,2504),(2507,2508),(2563,2563),
 (2622,2624),(2691,2691),(2750,2752),(2761,2761),(2818,2819),(2880,2880),(2887,2888),(3073,3075),(3137,3140),(3330,3331),
 (3391,3392),(3398,3400),(3635,3635),(3763,3763),(3902,3903),(4155,4156)]
theorem a1:apart kS kR=true:=by decide +kernel
theorem a2:apart kQ [(13,13),(10,10),(8205,8205),(127462,127487)]=true:=by decide +kernel
theorem a3:apart ly [(13,13),(10,10),(8205,8205),(127462,127487)]=true:=by decide +kernel
end Go.Proofs.YtechjomepdahiaaDoor
namespace Go.Proofs.YtechjomepdahiaaDoor
open Go.RowKit Go.ChangeShapes Go.WideShapes
def HeldT(k:IntKind)(w:World)(v:Value)(T:List (Int × Int)):Prop :=
 ∃ ao cap,v=.slice ao T.length cap/\∀ i,i<T.length->∃ b off,ao=some ⟨b,off,none⟩/\b<w.heap.size/\w.cell? ⟨b,off+i * 2,none⟩=some (.int k (T.getD i (0,0)).1)/\w.cell? ⟨b,off+i * 2+1,none⟩=some (.int k (T.getD i (0,0)).2)
theorem HeldT.below{k:IntKind}{w w':World}{v:Value}{T:List (Int × Int)}(h:HeldT k w v T)(hb:Below w.heap.size w w'):HeldT k w' v T:=by
 obtain ⟨ao,cap,rfl,hc⟩:=h;refine ⟨ao,cap,rfl,fun i hi=>?_⟩;obtain ⟨b,off,rfl,hlt,h1,h2⟩:=hc i hi;exact ⟨b,off,rfl,by have:=hb.size;omega,(hb.cell (p:=⟨b,_,none⟩) hlt).trans h1,(hb.cell (p:=⟨b,_,none⟩) hlt).trans h2⟩
theorem HeldT.view{k:IntKind}{w:World}{v:Value}{T:List (Int × Int)}(h:HeldT k w v T):∃ ao cap,v=.slice ao T.length cap/\∀ i,i<T.length->∃ b off,ao=some ⟨b,off,none⟩/\b<w.heap.size/\w.cell? ⟨b,off+i * 2,none⟩=some (.int k (T.getD i (0,0)).1)/\w.cell? ⟨b,off+i * 2+1,none⟩=some (.int k (T.getD i (0,0)).2):=h
def okB(xs:List Int)(m:Nat):Bool:=(m != 1 || (decide (lo2 (xs.getD 0 0)<=xs.getD m 0) && decide (xs.getD m 0<=hi2 (xs.getD 0 0)))) && bb (xs.getD m 0)
def goF(xs:List Int)(lead:Int):Nat->Nat->Nat
 | 0,m=>m
 | f+1,m=>if (m:Int)<lead/\m<xs.length/\okB xs m=true then goF xs lead f (m+1) else m
def bi(xs:List Int)(lead:Int):Nat:=goF xs lead 4 1
theorem e9(xs:List Int)(lead:Int)(f m:Nat)(h:¬ ((m:Int)<lead/\m<xs.length/\okB xs m=true)):goF xs lead f m=m:=by
 cases f with
 | zero=>rfl
 | succ f=>unfold goF;rw [if_neg h]
theorem lP(xs:List Int)(lead:Int)(f m:Nat)(hf:0<f)(h:(m:Int)<lead/\m<xs.length/\okB xs m=true):goF xs lead f m=goF xs lead (f - 1) (m+1):=by
 cases f with
 | zero=>omega
 | succ f=>show goF xs lead (f+1) m=_;rw [goF,if_pos h];rfl
theorem lQ(xs:List Int)(lead:Int)(f m:Nat)(h0:m<=xs.length)(h1:(m:Int)<=lead\/m<=1):m<=goF xs lead f m/\goF xs lead f m<=xs.length/\((goF xs lead f m:Int)<=lead\/goF xs lead f m<=1):=by
 induction f generalizing m with
 |zero=>exact ⟨Nat.le_refl _,h0,h1⟩
 |succ f ih =>
  unfold goF
  split
  ·rename_i h
   have:=ih (m+1) (by omega) (.inl (by omega));omega
  ·exact ⟨Nat.le_refl _,h0,h1⟩
theorem gy(xs:List Int)(lead:Int)(h:0<xs.length):1<=bi xs lead/\bi xs lead<=xs.length/\((bi xs lead:Int)<=lead\/bi xs lead<=1):=lQ xs lead 4 1 h (.inr (by omega))
theorem jW(v:Value)(xs:List Int)(lead:Int)(w:World)(hv:Held .u8 w v xs)(h0:0<xs.length)(hl:lead<=4)(hr:∀ i,i<xs.length->0<=xs.getD i 0/\xs.getD i 0<=255) :
  Calls Tryd.prog 121 #[v,.int .i64 lead] w fun e w'=>e=.returned (.int .i64 (bi xs lead))/\w=w':=by
 obtain ⟨ao,cap,rfl,hc⟩:=hv.view;obtain ⟨b,off,rfl,hb,mx⟩:=hc 0 h0;obtain ⟨r0,r1⟩:=hr 0 h0;have HC:=aa hc;have HR:=aa hr;have hk:∀ m,okB xs m=((m != 1 || (decide (lo2 (xs.getD 0 0)<=xs.getD m 0) && decide (xs.getD m 0<=hi2 (xs.getD 0 0)))) && bb (xs.getD m 0)):=fun _=>rfl
 obtain ⟨x,hx⟩:=ab (xs.getD 0 0);rw [<-hx] at mx r0 r1 hk;have HK:=aa hk;clear hv hc hr hx hk;rw [Nat.add_zero] at mx
 go_enter Tryd.func121,Tryd.ntmps121
 go_wp2_with fail
 refine (iX x _ r0 r1).mono ?_;rintro e w' ⟨rfl,rfl⟩;obtain ⟨lo,hlo⟩:=ab (lo2 x);obtain ⟨hi,hhi⟩:=ab (hi2 x);rw [<-hlo,<-hhi] at HK ⊢;clear hlo hhi mx;go_wp2
 go_loopw [7] (fun n wr=>∃ m f:Nat,n=.int .i64 m/\1<=m/\m<=xs.length/\lead - m<=f/\Hid (goF xs lead f m=bi xs lead)/\wr=w) (fun n _=>xs.length - (intOf n).toNat)
 case atStart=>exact ⟨1,4,rfl,Nat.le_refl _,h0,by omega,aa rfl,rfl⟩
 case round =>
  obtain ⟨m,f,rfl,h1,hm,hf,HG,rfl⟩:=hrel
  by_cases c1:(m:Int)<lead
  ·have c1':=decide_eq_true c1
   by_cases c2:m<xs.length
   ·have c2':decide ((m:Int)<(xs.length:Int))=true:=decide_eq_true (by omega);obtain ⟨b',off',wZ,hb',hcm⟩:=HC.out m c2
    cases wZ
    obtain ⟨y0,y1⟩:=HR.out m c2;have wX:=HK.out m;obtain ⟨y,hy⟩:=ab (xs.getD m 0);rw [<-hy] at hcm y0 y1 wX;have HKO:=aa wX;clear hy wX;have hstop:okB xs m=false->bi xs lead=m:=fun h=>by rw [<-HG.out];exact e9 _ _ _ _ (fun hh=>by rw [h] at hh;exact absurd hh.2.2 (by decide))
    have hgo:okB xs m=true->0<f/\goF xs lead (f - 1) (m+1)=bi xs lead:=fun h=>⟨by omega,by rw [<-HG.out];exact (lP xs lead f m (by omega) ⟨c1,c2,h⟩).symm⟩
    have qj:=aa hstop;have vq:=aa hgo;clear hstop hgo;have hcut:(okB xs m=false/\(∃ q:Bool,((m:Int) == 1)=q/\((q=true/\decide (y<lo)=true)\/(q=true/\decide (y<lo)=false/\decide (hi<y)=true)\/(q=true/\decide (y<lo)=false/\decide (hi<y)=false/\bb y=false)\/(q=false/\bb y=false))))
      \/ (okB xs m=true/\(∃ q:Bool,((m:Int) == 1)=q/\((q=true/\decide (y<lo)=false/\decide (hi<y)=false/\bb y=true)\/(q=false/\bb y=true)))):=by
     rw [HKO.out]
     by_cases wa:m=1
     ·have t1:((m:Int) == 1)=true:=by simp;omega
      have t2:(m != 1)=false:=by simp [wa]
      rw [t1,t2]
      by_cases a1:y<lo
      ·exact .inl ⟨by simp [show ¬ lo<=y by omega],true,rfl,.inl ⟨rfl,decide_eq_true a1⟩⟩
      ·by_cases a2:hi<y
       ·exact .inl ⟨by simp [show ¬ y<=hi by omega],true,rfl,.inr (.inl ⟨rfl,decide_eq_false a1,decide_eq_true a2⟩)⟩
       ·cases ht:bb y with
        | false=>exact .inl ⟨by simp,true,rfl,.inr (.inr (.inl ⟨rfl,decide_eq_false a1,decide_eq_false a2,rfl⟩))⟩
        | true=>exact .inr ⟨by simp [show lo<=y by omega,show y<=hi by omega],true,rfl,.inl ⟨rfl,decide_eq_false a1,decide_eq_false a2,rfl⟩⟩
     ·have t1:((m:Int) == 1)=false:=by simp;omega
      have t2:(m != 1)=true:=by simp [wa]
      rw [t1,t2]
      cases ht:bb y with
      |false=>exact .inl ⟨by simp,false,rfl,.inr (.inr (.inr ⟨rfl,rfl⟩))⟩
      |true=>exact .inr ⟨by simp,false,rfl,.inr ⟨rfl,rfl⟩⟩
    clear HKO HK
    rcases hcut with ⟨mH,q,t1,hq⟩ | ⟨mH,q,t1,hq⟩
    ·have he:=qj.out mH;have HE:=aa he;clear mH he qj vq
     rcases hq with ⟨rfl,d1⟩ | ⟨rfl,d1,d2⟩ | ⟨rfl,d1,d2,d3⟩ | ⟨rfl,d3⟩
     ·go_wp2;go_ret;exact ⟨by rw [HE.out];try rfl,rfl⟩
     ·go_wp2;go_ret;exact ⟨by rw [HE.out];try rfl,rfl⟩
     ·have D3:=aa d3;clear d3
      go_wp2_with fail
      refine (dU y _ y0 y1).mono ?_;rintro e w' ⟨rfl,rfl⟩;rw [D3.out];go_wp2;go_ret;exact ⟨by rw [HE.out];try rfl,rfl⟩
     ·have D3:=aa d3;clear d3
      go_wp2_with fail
      refine (dU y _ y0 y1).mono ?_;rintro e w' ⟨rfl,rfl⟩;rw [D3.out];go_wp2;go_ret;exact ⟨by rw [HE.out];try rfl,rfl⟩
    ·obtain ⟨um,hg1⟩:=vq.out mH;have oL:=aa hg1;clear mH qj vq hg1
     rcases hq with ⟨rfl,d1,d2,d3⟩ | ⟨rfl,d3⟩
     ·have D3:=aa d3;clear d3
      go_wp2_with fail
      refine (dU y _ y0 y1).mono ?_;rintro e w' ⟨rfl,rfl⟩;rw [D3.out];go_wp2
      go_roundw
      case rel=>exact ⟨m+1,f - 1,by go_num,by omega,by have:=of_decide_eq_true c2';omega,by omega,oL,trivial⟩
      case measure=>have:=of_decide_eq_true c2';simp [intOf];omega
     ·have D3:=aa d3;clear d3
      go_wp2_with fail
      refine (dU y _ y0 y1).mono ?_;rintro e w' ⟨rfl,rfl⟩;rw [D3.out];go_wp2
      go_roundw
      case rel=>exact ⟨m+1,f - 1,by go_num,by omega,by have:=of_decide_eq_true c2';omega,by omega,oL,trivial⟩
      case measure=>have:=of_decide_eq_true c2';simp [intOf];omega
   ·have c2':decide ((m:Int)<(xs.length:Int))=false:=decide_eq_false (by omega);have he:bi xs lead=m:=by rw [<-HG.out];exact e9 _ _ _ _ (fun hh=>c2 hh.2.1)
    have HE:=aa he;clear he;go_wp2;go_ret;exact ⟨by rw [HE.out];try rfl,rfl⟩
  ·have c1':=decide_eq_false c1;have he:bi xs lead=m:=by rw [<-HG.out];exact e9 _ _ _ _ (fun hh=>c1 hh.1)
   have HE:=aa he;clear he;go_wp2;go_ret;exact ⟨by rw [HE.out];try rfl,rfl⟩
def fS(v:Value):Prop:=∀ ao n c,v=.slice ao n c->n<=c
def cX(xs:List Int):Nat->Int
 | 0=>aN (xs.getD 0 0)
 | m+1=>cX xs m * 64+xs.getD (m+1) 0 % 64
theorem jn(x:Int)(x0:0<=x)(x1:x<=255):0<=aN x/\aN x<=127:=by
 unfold aN al;omega
theorem ls(xs:List Int)(h0:0<=xs.getD 0 0/\xs.getD 0 0<=255)(m:Nat)(hm:m<=3):0<=cX xs m/\cX xs m<128 * 64 ^ m:=by
 have:=jn _ h0.1 h0.2
 match m,hm with
 | 0,_=>show 0<=aN _/\aN _<128 * 64 ^ 0;omega
 | 1,_=>show 0<=aN _ * 64+_ % 64/\aN _ * 64+_ % 64<128 * 64 ^ 1;omega
 | 2,_=>show 0<=(aN _ * 64+_ % 64) * 64+_ % 64/\(aN _ * 64+_ % 64) * 64+_ % 64<128 * 64 ^ 2;omega
 | 3,_=>show 0<=((aN _ * 64+_ % 64) * 64+_ % 64) * 64+_ % 64/\((aN _ * 64+_ % 64) * 64+_ % 64) * 64+_ % 64<128 * 64 ^ 3;omega
theorem jV(v:Value)(xs:List Int)(w:World)(hv:Held .u8 w v xs)(pf:fS v)(h0:0<xs.length)(hl:xs.length<=4)(hr:∀ i,i<xs.length->0<=xs.getD i 0/\xs.getD i 0<=255) :
  Calls Tryd.prog 122 #[v] w fun e w'=>e=.returned (.int .i32 (cX xs (xs.length - 1)))/\w=w':=by
 obtain ⟨ao,cap,rfl,hc⟩:=hv.view;have m8:xs.length<=cap:=pf _ _ _ rfl;obtain ⟨b,off,rfl,hb,mx⟩:=hc 0 h0;obtain ⟨r0,r1⟩:=hr 0 h0;have HC:=aa hc;have HR:=aa hr;obtain ⟨n,hn⟩ : ∃ n,xs.length=n+1:=⟨xs.length - 1,by omega⟩;obtain ⟨x,hx⟩:=ab (xs.getD 0 0);rw [<-hx] at mx r0 r1;rw [Nat.add_zero] at mx;have HX:=aa hx;have HN:=aa hn;have ol:xs.length - 1=n:=by omega
 rw [ol,hn];clear hv pf hc hr hx ol
 go_enter Tryd.func122,Tryd.ntmps122
 go_wp2_with fail
 refine (kO x _ r0 r1).mono ?_;rintro e w' ⟨rfl,rfl⟩;have nx:=jn x r0 r1;have hv0:aN x=cX xs 0:=by rw [HX.out];rfl
 rw [hv0] at nx ⊢;clear hv0;have hv3:=fun m (hm:m<=3)=>ls xs (HX.out ▸ ⟨r0,r1⟩) m hm
 have pT:=aa hv3;clear hv3;have q1:¬ ((cap:Int)<(n:Int)+1):=by omega
 have q2:¬ (cap<n+1):=by omega
 by_cases qZ:n=0
 ·subst qZ
  by_cases hc1:cap=1
  ·subst hc1;go_wp2
   go_loopw [3,14] (fun r i wr=>r=.int .i32 (cX xs 0)/\i=.int .i64 0/\wr=w) (fun _ _ _=>0)
   case atStart=>exact ⟨rfl,rfl,rfl⟩
   case round =>
    obtain ⟨rfl,rfl,rfl⟩:=hrel;go_wp2;go_ret;exact ⟨rfl,rfl⟩
  ·go_wp2
   go_loopw [3,14] (fun r i wr=>r=.int .i32 (cX xs 0)/\i=.int .i64 0/\wr=w) (fun _ _ _=>0)
   case atStart=>exact ⟨rfl,rfl,rfl⟩
   case round =>
    obtain ⟨rfl,rfl,rfl⟩:=hrel;go_wp2;go_ret;exact ⟨rfl,rfl⟩
 ·have hc1:¬ (cap=1):=by omega
  go_wp2
  go_loopw [3,14] (fun r i wr=>∃ m:Nat,m<=n/\r=.int .i32 (cX xs m)/\i=.int .i64 m/\wr=w) (fun _ i _=>n - (intOf i).toNat)
  case atStart=>exact ⟨0,Nat.zero_le _,rfl,rfl,rfl⟩
  case round =>
   obtain ⟨m,hm,rfl,rfl,rfl⟩:=hrel
   by_cases hlt:m<n
   ·obtain ⟨b',off',wZ,hb',hcm⟩:=HC.out (m+1) (by have:=HN.out;omega)
    cases wZ
    rw [show off+(m+1)=off+1+m by omega] at hcm;obtain ⟨y0,y1⟩:=HR.out (m+1) (by have:=HN.out;omega);have hs:cX xs (m+1)=cX xs m * 64+xs.getD (m+1) 0 % 64:=rfl;have hvb:0<=cX xs m/\cX xs m<524288:=by
     obtain ⟨a0,a1⟩:=pT.out m (by omega);refine ⟨a0,Int.lt_of_lt_of_le a1 ?_⟩;have rg:m<=2:=by omega
     match m,rg with
     | 0,_=>decide
     | 1,_=>decide
     | 2,_=>decide
    obtain ⟨y,hy⟩:=ab (xs.getD (m+1) 0);rw [<-hy] at hcm y0 y1 hs;obtain ⟨a,ha⟩:=ab (cX xs m);rw [<-ha] at hvb hs ⊢;have HS:=aa hs;obtain ⟨a0,a1⟩:=hvb;have e1:=ky y y0 y1;have e2:=kx (a * 64) (y % 64) (by omega) (by omega) (by omega) (by omega) (by omega);clear hy ha hs;go_wp2
    go_roundw
    case rel=>exact ⟨m+1,by omega,by rw [HS.out],by go_num,trivial⟩
    case measure=>simp [intOf] <;> omega
   ·have qK:m=n:=by omega
    subst qK;go_wp2;go_ret;exact ⟨rfl,rfl⟩
section
attribute [local go_sem] Oper.semAt_some
structure Cu where
 p:Nat × Nat
 v:Value
end
section
attribute [local go_sem] Oper.semAt_some
section
variable {P : Program} {F : Fence} {nf : Nat} {α : Type} {E : Elem α} {Z : an} {w : World} {v u : Value} {L M : List α} {B : Nat} {ty : TypeId}
end
theorem fm{P:Program}{ρ:Operand->Value}{o:Oper}{w:World}{ty:TypeId}{x y:Operand}{b off:Nat}(ho:o.op=.store ty x y)(hx:ρ x=.pointer (some ⟨b,off,none⟩)){a:Option Addr}{n c:Nat}(hy:ρ y=.slice a n c)(u:Value)(hc:w.cell? ⟨b,off,none⟩=some u)(hf:w.frozen? ⟨b,off,none⟩=false)(hi:(P.info? ty).map (·.size)=some 1):(execOp ρ o).run P w=.ok .skip (w.setCell ⟨b,off,none⟩ (.slice a n c)):=by
 obtain ⟨i,hi1,hi2⟩:=Option.map_eq_some_iff.1 hi;have hce:1=P.cellsOf ty:=by unfold Program.cellsOf;rw [hi1];exact hi2.symm
 unfold execOp
 simp [ho,hx,hy,go_sem,hc,hf,run_sizeOf,hi1,hi2]
 exact hce
end
end Go.Proofs.YtechjomepdahiaaDoor
