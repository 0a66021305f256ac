import Derived.Test.YthdphijabffpiaaDoorZ0
import Derived.Test.YthdphijabffpiaaDoorProg
import Derived.Test.YthdphijabffpiaaDoorMg1
import Derived.Handy
import Derived.LaidEql
import Derived.LaidHandle
import Derived.Stop.Asserts
import Derived.Stop.LaidErr
import Derived.RowKitTokens
import Derived.Deep.LoopGhost
import Derived.Deep.RegionWith
set_option maxRecDepth 100000
set_option linter.unusedVariables false
set_option linter.unusedSimpArgs false
set_option maxHeartbeats 400000
namespace Go.Proofs.YthdphijabffpiaaDoor.F
open Go.RowKit Go.Extern.Stop Go.Stop Go.Extern
def glob:Nat->Nat
 | 0=>0 | 1=>1 | 2=>2 | 3=>3
 | 4=>4 | 5=>5 | 6=>6 | _=>7
structure Sents (w:World) (sa:Nat->Addr):Prop where
 cell:∀ k,k<8->w.cell? ⟨glob k,0,none⟩=some (.iface 163 (.pointer (some (sa k))))
 row:∀ k,k<8->∃ c t,w.heap[(sa k).block]? = some (.cells c t (0,0))
 ne:∀ i j,i<8->j<8->i≠j->sa i≠sa j
theorem Sents.below{w w':World}{sa:Nat->Addr}(h:Sents w sa)(hb:Below w.heap.size w w'):Sents w' sa where
 cell k hk:=by
  have:=h.cell k hk;exact (hb.cell (p:=⟨glob k,0,none⟩) (World.block_lt_of_cell? _ _ this)).trans this
 row k hk:=by
  obtain ⟨c,t,hr⟩:=h.row k hk;exact ⟨c,t,(hb.block _ (Array.getElem?_eq_some_iff.1 hr).1).trans hr⟩
 ne:=h.ne
inductive IsErr (sa:Nat->Addr) (w:World):Value->List Int->Nat->Prop
 | sent (k:Nat) (hk:k<8):IsErr sa w (.iface 163 (.pointer (some (sa k)))) [] (k+1)
 | fault (b off:Nat) (at_:Int) (e:Value) (ps:List Int) (c:Nat) (h0:w.cell? ⟨b,off,none⟩=some (.int .i64 at_)) (h1:w.cell? ⟨b,off+1,none⟩=some e)
  (h:IsErr sa w e ps c):IsErr sa w (.iface 90 (.pointer (some ⟨b,off,none⟩))) (at_ :: ps) c
theorem IsErr.keep{sa:Nat->Addr}{w w':World}{e:Value}{ps:List Int}{c:Nat}(h:IsErr sa w e ps c)(hb:Below w.heap.size w w'):IsErr sa w' e ps c:=by
 induction h with
 | sent k hk=>exact .sent k hk
 | fault b off at_ e ps c h0 h1 _ ih=>exact .fault b off at_ e ps c ((hb.cell (p:=⟨b,off,none⟩) (World.block_lt_of_cell? _ _ h0)).trans h0) ((hb.cell (p:=⟨b,off+1,none⟩) (World.block_lt_of_cell? _ _ h1)).trans h1) ih
theorem IsErr.num{sa:Nat->Addr}{w:World}{e:Value}{ps:List Int}{c:Nat}(h:IsErr sa w e ps c):1<=c/\c<=8:=by
 induction h with
 | sent k hk=>omega
 | fault b off at_ e ps c h0 h1 _ ih=>exact ih
def ErrV(sa:Nat->Addr)(w:World)(v:Value)(ps:List Int)(c:Nat):Prop:=(v=.nilIface/\ps=[]/\c=0)\/IsErr sa w v ps c
theorem ErrV.below{sa:Nat->Addr}{w w':World}{v:Value}{ps:List Int}{c:Nat}(h:ErrV sa w v ps c)(hb:Below w.heap.size w w'):ErrV sa w' v ps c:=h.imp id (·.keep hb)
theorem isTypeOf(v:Value)(w:World):(Extern.ReflectliteType.typeOf #[.iface 163 v]).run Tryd.prog w=.ok (.iface 148 (.agg #[.pointer (some ⟨9,163,none⟩)])) w:=by kernel_rfl
def comparableEntry : Array Value → Sem Value := Extern.ReflectliteType.method fun t => do Extern.Rtype.noPackHeld "Comparable" t; pure (.bool (← typeInfo t).comparable)
theorem isComparable(w:World):(comparableEntry #[.agg #[.pointer (some ⟨9,163,none⟩)]]).run Tryd.prog w=.ok (.bool true) w:=by kernel_rfl
theorem isMethodComparable (v : Value) (w : World) : (Go.method 297 148 v "Comparable").run Tryd.prog w = .ok (130, v) w := by kernel_rfl
theorem isComp:(Tryd.prog.info? 163).map (·.comparable)=some true:=by kernel_rfl
theorem isSize:(Tryd.prog.info? 185).map (·.size)=some 1:=by kernel_rfl
theorem noIsE(v:Value)(xT:TypeId)(w:World):(Instr.typeAssert (.iface 163 v) xT 159 true).run Tryd.prog w=.ok (.tuple #[.nilIface,.bool false]) w:=run_typeAssert_lacksB Tryd.underlying159 (by kernel_rfl) (by kernel_rfl) v xT w
theorem noUnwrapE(v:Value)(xT:TypeId)(w:World):(Instr.typeAssert (.iface 163 v) xT 155 true).run Tryd.prog w=.ok (.tuple #[.nilIface,.bool false]) w:=run_typeAssert_lacksB Tryd.underlying155 (by kernel_rfl) (by kernel_rfl) v xT w
theorem noUnwrapsE(v:Value)(xT:TypeId)(w:World):(Instr.typeAssert (.iface 163 v) xT 157 true).run Tryd.prog w=.ok (.tuple #[.nilIface,.bool false]) w:=run_typeAssert_lacksB Tryd.underlying157 (by kernel_rfl) (by kernel_rfl) v xT w
theorem gR(v:Value)(xT:TypeId)(w:World):(Instr.typeAssert (.iface 90 v) xT 159 true).run Tryd.prog w=.ok (.tuple #[.nilIface,.bool false]) w:=run_typeAssert_lacksB Tryd.underlying159 (by kernel_rfl) (by kernel_rfl) v xT w
theorem e9(v:Value)(xT:TypeId)(w:World):(Instr.typeAssert (.iface 90 v) xT 155 true).run Tryd.prog w=.ok (.tuple #[.iface 90 v,.bool true]) w:=run_typeAssert_hasB Tryd.underlying155 (by kernel_rfl) v xT w
theorem dC (v : Value) (w : World) : (Go.method 297 90 v "Unwrap").run Tryd.prog w = .ok (124, v) w := by kernel_rfl
theorem fa(b off:Nat)(e:Value)(w:World)(h1:w.cell? ⟨b,off+1,none⟩=some e) :
  Calls Tryd.prog 124 #[.pointer (some ⟨b,off,none⟩)] w fun r w'=>r=.returned e/\w=w':=by
 go_enter Tryd.func124,Tryd.ntmps124
 go_wp2;go_ret;exact ⟨rfl,rfl⟩
theorem IsErr.iface{sa:Nat->Addr}{w:World}{e:Value}{ps:List Int}{c:Nat}(h:IsErr sa w e ps c):∃ T v,e=.iface T v/\v.cells.size=1:=by
 cases h with
 | sent k hk=>exact ⟨_,_,rfl,rfl⟩
 | fault b off at_ e ps c h0 h1 h=>exact ⟨_,_,rfl,rfl⟩
theorem gn(sa:Nat->Addr)(w:World)(hs:Sents w sa)(k:Nat)(hk:k<8)(e:Value)(ps:List Int)(c:Nat)(he:IsErr sa w e ps c) :
  Calls Tryd.prog 89 #[e,.iface 163 (.pointer (some (sa k))),.bool true] w fun r w'=>r=.returned (.bool (c == k+1))/\w=w':=by
 obtain ⟨i,hi,hcmp⟩:=Option.map_eq_some_iff.1 isComp;obtain ⟨j,hj,hjs⟩:=Option.map_eq_some_iff.1 isSize;have nE:=noIsE;have uE:=noUnwrapE;have vE:=noUnwrapsE;have nF:=gR;have uF:=e9;have mF:=dC;have HS:=aa hs;have HE:=aa he;clear hs he
 go_enter Tryd.func89,Tryd.ntmps89
 go_wp2
 go_loopg [0] (ps.length+1) (fun n v wr=>∃ qs,IsErr sa w v qs c/\qs.length<n/\w=wr)
 case atStart=>exact ⟨ps,HE.out,Nat.lt_succ_self _,rfl⟩
 case round =>
  obtain ⟨qs,hq,hlen,rfl⟩:=hrel
  cases hq with
  |sent m hm =>
   by_cases j6:m=k
   ·subst j6;have nh:=run_eql_iface_ptr_same (P:=Tryd.prog) w (sa m) Tryd.underlying36 Tryd.underlying163 hi hcmp hj;go_wp2;go_ret;exact ⟨ak (by simp),rfl⟩
   ·obtain ⟨c1,t1,hr1⟩:=HS.out.row m hm;obtain ⟨c2,t2,hr2⟩:=HS.out.row k hk;have nh:=run_eql_iface_ptr_other (P:=Tryd.prog) w Tryd.underlying36 Tryd.underlying163 hi hcmp hj (by rw [hjs];decide) (HS.out.ne m k hm hk j6) hr1 hr2;have hf:=aa (show (m+1 == k+1)=false by simp;exact j6);clear hr1 hr2 j6;go_wp2;go_ret;exact ⟨ak (by rw [hf.out];rfl),rfl⟩
  |fault b off at_ e' qs' _ h0 h1 h =>
   have hty:=run_eql_iface_types (P:=Tryd.prog) 90 163 (.pointer (some ⟨b,off,none⟩)) (.pointer (some (sa k))) Tryd.underlying36 (by decide) w;obtain ⟨T,u,lI,_⟩:=h.iface;have H:=aa h;have H1:=aa h1;have HL:=aa hlen;clear h h1 h0 hlen
   go_wp2_with (go_at_call 124;refine (fa b off _ _ H1.out).mono ?_;rintro e w' ⟨rfl,rfl⟩)
   go_roundg (qs'.length+1)
   case measure=>have:=HL.out;simp at this;omega
   case rel=>exact ⟨qs',by first | exact H.out | (rw [<-lI];exact H.out),Nat.lt_succ_self _,rfl⟩
theorem bP(sa:Nat->Addr)(w:World)(hs:Sents w sa)(k:Nat)(hk:k<8)(e:Value)(ps:List Int)(c:Nat)(he:ErrV sa w e ps c) :
  Calls Tryd.prog 53 #[e,.iface 163 (.pointer (some (sa k)))] w fun r w'=>r=.returned (.bool (c == k+1))/\w=w':=by
 rcases he with ⟨rfl,rfl,rfl⟩ | he
 ·have hn:=run_eql_iface_nil_left (P:=Tryd.prog) w 163 (.pointer (some (sa k))) Tryd.underlying36;have hf:=aa (show ((0:Nat) == k+1)=false by simp)
  go_enter Tryd.func53,Tryd.ntmps53
  go_wp2;go_ret;exact ⟨ak (by rw [hf.out];rfl),rfl⟩
 ·have h24:=@run_callFunc_extern Tryd.prog 88 _ Extern.ReflectliteType.typeOf Tryd.func88 (by kernel_rfl) (by kernel_rfl) (by kernel_rfl) (by kernel_rfl);have h56:=@run_callFunc_extern Tryd.prog 130 _ comparableEntry Tryd.func130 (by kernel_rfl) (by kernel_rfl) (by kernel_rfl) (by kernel_rfl);have tT:=isTypeOf;have cT:=isComparable;have mR:=isMethodComparable;have HC:=aa (gn sa w hs k hk e ps c he);obtain ⟨T,u,lI,_⟩:=he.iface;clear he hs;subst lI
  go_enter Tryd.func53,Tryd.ntmps53
  go_wp2_with (go_at_call 89;refine HC.out.mono ?_;rintro e w' ⟨rfl,rfl⟩)
  go_ret;exact ⟨rfl,rfl⟩
theorem code_any(sa:Nat->Addr)(w:World)(hs:Sents w sa)(e:Value)(ps:List Int)(c:Nat)(he:ErrV sa w e ps c) :
  Calls Tryd.prog 17 #[e] w fun r w'=>r=.returned (.int .i64 c)/\w=w':=by
 rcases he with ⟨rfl,rfl,rfl⟩ | he
 ·go_enter Tryd.func17,Tryd.ntmps17
  go_wp2;go_ret;exact ⟨rfl,rfl⟩
 ·have h0:=hs.cell 0 (by decide);have h1:=hs.cell 1 (by decide);have h2:=hs.cell 2 (by decide);have h3:=hs.cell 3 (by decide);have h4:=hs.cell 4 (by decide);have h5:=hs.cell 5 (by decide);have h6:=hs.cell 6 (by decide);have h7:=hs.cell 7 (by decide);simp only [glob] at h0 h1 h2 h3 h4 h5 h6 h7;have hc:=he.num;have i0:=aa (bP sa w hs 0 (by decide) e ps c (.inr he));have i1:=aa (bP sa w hs 1 (by decide) e ps c (.inr he));have i2:=aa (bP sa w hs 2 (by decide) e ps c (.inr he));have i3:=aa (bP sa w hs 3 (by decide) e ps c (.inr he));have i4:=aa (bP sa w hs 4 (by decide) e ps c (.inr he));have i5:=aa (bP sa w hs 5 (by decide) e ps c (.inr he));have i6:=aa (bP sa w hs 6 (by decide) e ps c (.inr he));have i7:=aa (bP sa w hs 7 (by decide) e ps c (.inr he));obtain ⟨T,u,lI,_⟩:=he.iface;clear he hs;subst lI;have hcc:c=1\/c=2\/c=3\/c=4\/c=5\/c=6\/c=7\/c=8:=by omega
  clear hc
  rcases hcc with rfl | rfl | rfl | rfl | rfl | rfl | rfl | rfl
  all_goals
   go_enter Tryd.func17,Tryd.ntmps17
   go_wp2_with (first
    |(go_at_call_of 53 (Value.iface 163 (.pointer (some (sa 0))));refine i0.out.mono ?_;rintro e w' ⟨rfl,rfl⟩)
    |(go_at_call_of 53 (Value.iface 163 (.pointer (some (sa 1))));refine i1.out.mono ?_;rintro e w' ⟨rfl,rfl⟩)
    |(go_at_call_of 53 (Value.iface 163 (.pointer (some (sa 2))));refine i2.out.mono ?_;rintro e w' ⟨rfl,rfl⟩)
    |(go_at_call_of 53 (Value.iface 163 (.pointer (some (sa 3))));refine i3.out.mono ?_;rintro e w' ⟨rfl,rfl⟩)
    |(go_at_call_of 53 (Value.iface 163 (.pointer (some (sa 4))));refine i4.out.mono ?_;rintro e w' ⟨rfl,rfl⟩)
    |(go_at_call_of 53 (Value.iface 163 (.pointer (some (sa 5))));refine i5.out.mono ?_;rintro e w' ⟨rfl,rfl⟩)
    |(go_at_call_of 53 (Value.iface 163 (.pointer (some (sa 6))));refine i6.out.mono ?_;rintro e w' ⟨rfl,rfl⟩)
    |(go_at_call_of 53 (Value.iface 163 (.pointer (some (sa 7))));refine i7.out.mono ?_;rintro e w' ⟨rfl,rfl⟩))
   go_ret;exact ⟨rfl,rfl⟩
theorem wrong_any(w:World)(at_:Int)(T:TypeId)(u:Value) :
  Calls Tryd.prog 58 #[.int .i64 at_,.iface T u] w fun r w'=>r=.returned (.iface 90 (.pointer (some ⟨w.heap.size,0,none⟩)))/\w.alloc (.cells #[.int .i64 at_,.iface T u] 94)=w':=by
 go_enter Tryd.func58,Tryd.ntmps58
 go_wp2;go_ret;exact ⟨rfl,rfl⟩
end Go.Proofs.YthdphijabffpiaaDoor.F
