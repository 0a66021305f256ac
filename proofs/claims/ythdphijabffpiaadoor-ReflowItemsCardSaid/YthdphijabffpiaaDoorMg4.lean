import Derived.Test.YthdphijabffpiaaDoorZ0
import Derived.Test.YthdphijabffpiaaDoorGrdR
import Derived.Test.YthdphijabffpiaaDoorCellS
import Derived.Test.YthdphijabffpiaaDoorMg3
import Derived.Test.YthdphijabffpiaaDoorMg2
import Derived.Test.YthdphijabffpiaaDoorMg1
import Derived.Test.YthdphijabffpiaaDoorCellO
import Derived.Test.YthdphijabffpiaaDoorCellP
import Derived.Lib.MinMax
import Derived.Deep.Cut
import Derived.ProofKit
set_option maxRecDepth 100000
set_option linter.unusedVariables false
set_option linter.unusedSimpArgs false
set_option maxHeartbeats 2000000
namespace Go.Proofs.YthdphijabffpiaaDoor
open Go.RowKit Go.ChangeShapes Go.WideShapes
def cp(n0:Nat)(l:Ln):Nat:=if l.1.length=0\/1024<l.1.length then 3 else if am l.1=false then 5 else if l.1.length≠n0 then 3 else 0
def cq(Ls:List Ln):Nat:=(Ls.getD 0 zl).1.length
def cJ(Ls:List Ln):Prop:=∀ k,k<Ls.length->cp (cq Ls) (Ls.getD k zl)=0
def bY(Ls:List Ln)(i c:Nat):Prop:=i<Ls.length/\(∀ j,j<i->cp (cq Ls) (Ls.getD j zl)=0)/\cp (cq Ls) (Ls.getD i zl)=c/\c≠0
theorem ea(Ls:List Ln):cJ Ls\/∃ i c,bY Ls i c:=by
 have h:∀ n,n<=Ls.length->(∀ j,j<n->cp (cq Ls) (Ls.getD j zl)=0)\/∃ i c,bY Ls i c:=by
  intro n
  induction n with
  |zero=>intro _;exact .inl fun j hj=>absurd hj (Nat.not_lt_zero _)
  |succ n ih =>
   intro hn
   rcases ih (by omega) with h | h
   ·by_cases e:cp (cq Ls) (Ls.getD n zl)=0
    ·refine .inl fun j hj=>?_
     by_cases ej:j=n
     ·subst ej;exact e
     ·exact h j (by omega)
    ·exact .inr ⟨n,_,by omega,h,rfl,e⟩
   ·exact .inr h
 exact h Ls.length (Nat.le_refl _)
theorem ex{Ls:List Ln}{i c:Nat}(h:∀ j,j<Ls.length->cp (cq Ls) (Ls.getD j zl)=0)(hb:bY Ls i c):False:=hb.2.2.2 (hb.2.2.1.symm.trans (h i hb.1))
def WrongTold(w:World)(Ls:List Ln)(e:Ending)(w':World):Prop:=(cJ Ls->e=.returned (.tuple #[.int .i64 (-1),.int .i64 0]))/\(∀ i c:Nat,bY Ls i c->e=.returned (.tuple #[.int .i64 i,.int .i64 c]))/\Below w.heap.size w w'
section
section
variable {w w' : World} {B gg wd : Nat} {v v' : Value} {Xs Xs' : List (Option Nat)} {Rs : List Rw}
end
end
theorem WrongTold.say{w w':World}{Ls:List Ln}{e:Ending}(h:WrongTold w Ls e w'):∃ a c:Int,e=.returned (.tuple #[.int .i64 a,.int .i64 c])/\((cJ Ls/\a = -1)\/(0<=a/\¬ cJ Ls))/\Below w.heap.size w w':=by
 obtain ⟨h1,h2,h3⟩:=h
 rcases ea Ls with hg | ⟨i,c,hf⟩
 ·exact ⟨-1,0,h1 hg,.inl ⟨hg,rfl⟩,h3⟩
 ·exact ⟨i,c,h2 i c hf,.inr ⟨by omega,fun hg=>ex hg hf⟩,h3⟩
abbrev Fnd:=List Int × Nat
def dd(i:Nat)(t:List Fnd):List Fnd:=t.map fun x=>((i:Int) :: x.1,x.2)
structure Vw where
 w:Int
 h:Int
 L:List Ln
 r:Int
 c:Int
 pd:Bool
 au:Bool
theorem cP(Z:ak)(B:Nat)(v:Value)(C:List Cl)(wd:Nat)(wrap:Bool)(w:World)(hv:OwnE cellE Z w B 74 v C)(hZ:∀ b,w.heap.size<=b->Z b)(hB:B<=w.heap.size)(hw:wd<=1024)(hC:C.length<=wd):Calls Tryd.prog 65 #[v,.int .i64 (wd:Int),.bool wrap] w (fun e w'=>∃ v',e=.returned (.agg #[v',.bool wrap])/\OwnE cellE Z w' B 74 v' (C++List.replicate (wd - C.length) zc)/\Below B w w'/\KeepZ (fun b=>v.ownBlock≠some b) w w'):=by
 obtain ⟨g6,lK⟩:=ab (w.heap.size);obtain ⟨Wa,iY⟩:=ab (w.alloc (.cells [Value.slice none 0 0,.bool false].toArray 30));have ba:Below w.heap.size w Wa:=by rw [iY];exact af _ _
 have ga:Has Wa g6 [.slice none 0 0,.bool false] 30:=by rw [iY,lK];exact Has.new w _ _
 have kK:=hv.lt;have lm:OwnE cellE (fun b=>Z b/\b≠g6) Wa B 74 v C:=(hv.keep (Y:=fun b=>Z b/\b≠g6) (.refl _ _) (fun b hb hz=>⟨hz,by omega⟩)).below ba;have hno:v.ownBlock≠some g6:=fun e=>by have:=(kK _ e).2;omega
 have HV:=aa lm;have HA:=aa ga;have HB:=aa (ba.mono hB);have lj:=aa (show w.alloc (.cells #[Value.slice none 0 0,.bool false] 30)=Wa from by rw [iY]);have HZ:=aa hZ;have js:=aa hno;have HG6:=aa lK;have jq:=aa ba.size;have gD:=aa hB;have hka:=KeepZ.all ba (fun b=>v.ownBlock≠some b);have HKA:=aa hka;have HGB:=aa (show B<=g6 from by omega);obtain ⟨n,hn⟩:=ab (C.length);obtain ⟨d,hd⟩:=ab (wd - n);have HN:=aa hn;have HD:=aa hd;obtain ⟨o,ck,ev⟩:=((lm.keep (Y:=fun _=>True) (.refl _ _) (fun _ _ _=>trivial)).held (fun _ _ _=>trivial)).len;rw [<-hn] at ev;subst ev;have hwd:IntKind.i64.wrap ((wd:Int) - (n:Int))=(d:Int):=by rw [IntKind.wrap_i64];omega
 have kS:cg (d:Int)=d:=by unfold cg;omega
 have HBL:=aa (cQ (fun b=>(Z b/\b≠g6)/\(Value.slice o n ck).ownBlock≠some b) (d:Int) Wa);rw [kS] at HBL;have hdm:d<=1024:=by omega
 have hnm:n<=1024:=by omega
 clear iY ba ga kK lm hno hka kS lK hn hd hv hZ hB
 go_enter Tryd.func65,Tryd.ntmps65
 go_upto_region 1 with (fail)
 rw [lj.out,<-HG6.out]
 go_wp2_with fail
 refine (HBL.out).mono ?_;rintro e w2 ⟨bv,rfl,ho,b2⟩;have hbh:=ho.held (fun b hb _=>⟨⟨HZ.out b (Nat.le_trans jq.out hb),fun e=>by have:=HA.out.lt;omega⟩,fun e=>by have:=(HV.out.lt b e).2;omega⟩);have HU:=aa hbh;have HV2:=aa (HV.out.below b2);have HA2:=aa (HA.out.below b2 HA.out.lt);have gH:=aa (HB.out.trans (b2.mono (Nat.le_trans gD.out jq.out)));have je:=aa (show KeepZ (fun b=>(Value.slice o n ck).ownBlock≠some b) w w2 from (HKA.out).trans ((KeepZ.all b2 _)));clear ho b2 hbh;have j2:=aa gH.out.size
 go_wp2_with (at_builtin;refine ai (E:=cellE) (Z:=fun b=>Z b/\b≠g6) rfl (.tmp 7) (.tmp 12) 28 rfl (.agg #[.int .i64 0,.slice none 0 0]) 32 Tryd.underlying28 bh rfl (by decide) rfl rfl HV2.out HU.out (by have:=HN.out;simp;omega) (by have:=HN.out;simp;omega) (show B<=w2.heap.size from Nat.le_trans gD.out j2.out) ?_)
 intro v3 w3 hO hb3 ll jc;have hno3:=jc g6 HA2.out.lt js.out;have km:=aa (ll.has HA2.out js.out);have ly:=aa hO;have ij:=aa (gH.out.trans hb3);have lN:=aa (je.out.trans ll);have HN3:=aa hno3;obtain ⟨o3,k3,ev3⟩:=((hO.keep (Y:=fun _=>True) (.refl _ _) (fun _ _ _=>trivial)).held (fun _ _ _=>trivial)).len;obtain ⟨n3,hn3⟩:=ab ((C++List.replicate d zc).length);rw [<-hn3] at ev3;subst ev3;have f0:=km.out.free 0;have f1:=km.out.free 1;have x0:=km.out.cell 0 _ rfl;have x1:=km.out.cell 1 _ rfl;obtain ⟨wt,hwt⟩:=ab ((w3.setCell ⟨g6,0,none⟩ (.slice o3 n3 k3)).setCell ⟨g6,1,none⟩ (.bool wrap));have hu:=((Upd.refl (fun z=>z=g6) w3).setCell (p:=⟨g6,0,none⟩) (.inl rfl) (.slice o3 n3 k3)).setCell (p:=⟨g6,1,none⟩) (.inl rfl) (.bool wrap);have HT:=aa (show Has wt g6 [.slice o3 n3 k3,.bool wrap] 30/\OwnE cellE (fun b=>Z b) wt B 74 (.slice o3 n3 k3) (C++List.replicate d zc)/\Below B w wt/\KeepZ (fun b=>(Value.slice o n ck).ownBlock≠some b) w wt from by
  rw [hwt];refine ⟨(km.out.set 0 _).set 1 _,(ly.out.upd hu (fun b hz e=>?_)).keep (.refl _ _) (fun _ _ hz=>hz.1),ij.out.trans (hu.below (Nat.le_trans gD.out (Nat.le_trans j2.out hb3.size)) (fun z e=>by have:=HGB.out;omega)),⟨Nat.le_trans lN.out.size hu.size,fun b hb hz=>(hu.block b (Nat.lt_of_lt_of_le hb lN.out.size) (fun e=>by have:=HG6.out;omega)).trans (lN.out.block b hb hz)⟩⟩
  rcases hz with hz | hz
  ·exact hz.2 e
  ·subst e;exact HN3.out hz)
 have kB:=aa hwt.symm;clear hwt hu hO hb3 ll jc hno3 hn3;go_wp2;rw [kB.out];exact bodyPost_ret (v:=.agg [Value.slice o3 n3 k3,.bool wrap].toArray) (cB Tryd.results65 _ _ g6 30 _ _ 2 rfl HT.out.1 Tryd.underlying30 rfl (by kernel_rfl) rfl) rfl ⟨_,rfl,by rw [<-HN.out,<-HD.out];exact HT.out.2.1,HT.out.2.2.1,HT.out.2.2.2⟩
end Go.Proofs.YthdphijabffpiaaDoor
