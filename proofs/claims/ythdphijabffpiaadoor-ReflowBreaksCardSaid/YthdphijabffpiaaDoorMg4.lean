import Derived.Test.YthdphijabffpiaaDoorZ0
import Derived.Test.YthdphijabffpiaaDoorGrdR
import Derived.Test.YthdphijabffpiaaDoorCellS
import Derived.Test.YthdphijabffpiaaDoorMg3
import Derived.Test.YthdphijabffpiaaDoorMg2
import Derived.Test.YthdphijabffpiaaDoorMg1
import Derived.Test.YthdphijabffpiaaDoorCellO
import Derived.Test.YthdphijabffpiaaDoorCellP
import Derived.Lib.MinMax
import Derived.Deep.Cut
import Derived.ProofKit
set_option maxRecDepth 100000
set_option linter.unusedVariables false
set_option linter.unusedSimpArgs false
set_option maxHeartbeats 2000000
namespace Go.Proofs.YthdphijabffpiaaDoor
open Go.RowKit Go.ChangeShapes Go.WideShapes
def cN(n0:Nat)(l:Ln):Nat:=if l.1.length=0\/1024<l.1.length then 3 else if al l.1=false then 5 else if l.1.length≠n0 then 3 else 0
def cO(Ls:List Ln):Nat:=(Ls.getD 0 zl).1.length
def da(Ls:List Ln):Prop:=∀ k,k<Ls.length->cN (cO Ls) (Ls.getD k zl)=0
def cy(Ls:List Ln)(i c:Nat):Prop:=i<Ls.length/\(∀ j,j<i->cN (cO Ls) (Ls.getD j zl)=0)/\cN (cO Ls) (Ls.getD i zl)=c/\c≠0
theorem eE(Ls:List Ln):da Ls\/∃ i c,cy Ls i c:=by
 have h:∀ n,n<=Ls.length->(∀ j,j<n->cN (cO Ls) (Ls.getD j zl)=0)\/∃ i c,cy Ls i c:=by
  intro n
  induction n with
  |zero=>intro _;exact .inl fun j hj=>absurd hj (Nat.not_lt_zero _)
  |succ n ih =>
   intro hn
   rcases ih (by omega) with h | h
   ·by_cases e:cN (cO Ls) (Ls.getD n zl)=0
    ·refine .inl fun j hj=>?_
     by_cases ej:j=n
     ·subst ej;exact e
     ·exact h j (by omega)
    ·exact .inr ⟨n,_,by omega,h,rfl,e⟩
   ·exact .inr h
 exact h Ls.length (Nat.le_refl _)
theorem eY{Ls:List Ln}{i c:Nat}(h:∀ j,j<Ls.length->cN (cO Ls) (Ls.getD j zl)=0)(hb:cy Ls i c):False:=hb.2.2.2 (hb.2.2.1.symm.trans (h i hb.1))
def WrongTold(w:World)(Ls:List Ln)(e:Ending)(w':World):Prop:=(da Ls->e=.returned (.tuple #[.int .i64 (-1),.int .i64 0]))/\(∀ i c:Nat,cy Ls i c->e=.returned (.tuple #[.int .i64 i,.int .i64 c]))/\Below w.heap.size w w'
section
section
variable {w w' : World} {B gg wd : Nat} {v v' : Value} {Xs Xs' : List (Option Nat)} {Rs : List Rw}
end
end
theorem WrongTold.say{w w':World}{Ls:List Ln}{e:Ending}(h:WrongTold w Ls e w'):∃ a c:Int,e=.returned (.tuple #[.int .i64 a,.int .i64 c])/\((da Ls/\a = -1)\/(0<=a/\¬ da Ls))/\Below w.heap.size w w':=by
 obtain ⟨h1,h2,h3⟩:=h
 rcases eE Ls with hg | ⟨i,c,hf⟩
 ·exact ⟨-1,0,h1 hg,.inl ⟨hg,rfl⟩,h3⟩
 ·exact ⟨i,c,h2 i c hf,.inr ⟨by omega,fun hg=>eY hg hf⟩,h3⟩
abbrev Fnd:=List Int × Nat
def dz(i:Nat)(t:List Fnd):List Fnd:=t.map fun x=>((i:Int) :: x.1,x.2)
structure Vw where
 w:Int
 h:Int
 L:List Ln
 r:Int
 c:Int
 pd:Bool
 au:Bool
theorem fV{P:Program}{α:Type}{E:Elem α}{ok:α->Prop}{t:TypeId}(h:cV P E ok t):bT P E ok t:=⟨h.1,fun enc W base fuel cs x hx _=>h.2 enc W base fuel cs x hx⟩
theorem eJ{P:Program}{α β:Type}{E:Elem α}{F:Elem β}{ok:α->Prop}{ok':β->Prop}{t:TypeId}{f0 f1:Field}(hu:P.underlying t=some (.struct #[f0,f1]))(hc:P.cellsOf t=E.size+F.size)(h0:f0.offset=0)(h1:f1.offset=E.size)(he:bT P E ok f0.type)(hf:bT P F ok' f1.type):bT P (prE E F) (fun x=>ok x.1/\ok' x.2) t:=by
 refine ⟨hc,fun {H} enc W base fuel cs x h hz=>?_⟩;obtain ⟨y0,y1,n,e,hl,t0,t1⟩:=trod_struct2 hu h;rw [he.1,h0] at t0;rw [hf.1,h1] at t1;have hz2:∀ z ∈ y0.1.weights P f0.type++(y1.1.weights P f1.type++[]),z<=reachBytes:=by
  rw [e] at hz;simp only [DataW.weights,hu] at hz
  simpa [DataW.weightsEach] using hz
 obtain ⟨x0,r0,k0⟩:=he.2 enc W base _ _ _ t0 (fun z h=>hz2 z (List.mem_append.2 (.inl h)));obtain ⟨x1,r1,k1⟩:=hf.2 enc W base _ _ _ t1 (fun z h=>hz2 z (List.mem_append.2 (.inr (List.mem_append.2 (.inl h)))));refine ⟨(x0,x1),⟨_,_,?_,r0,r1⟩,k0,k1⟩;rw [hc] at hl;simp only [List.drop_zero];rw [List.take_of_length_le (l:=List.drop E.size cs) (by simp;omega),List.take_append_drop]
theorem eK:bT Tryd.prog cellE (fun _=>True) 74:=by
 have h:=eQ (P:=Tryd.prog) Tryd.underlying74 (by kernel_rfl) rfl rfl (dH (k:=.i64) Tryd.underlying3 (by kernel_rfl)) (ep Tryd.underlying57 (by kernel_rfl) (by decide) (dH (k:=.i32) Tryd.underlying21 (by kernel_rfl)));exact ⟨h.1,fun enc W base fuel cs x hx _=>by
  obtain ⟨y,hr,_⟩:=h.2 enc W base fuel cs x hx;exact ⟨y,hr,trivial⟩⟩
theorem de(Z:aj)(B:Nat)(v:Value)(C:List Cl)(wd:Nat)(wrap:Bool)(w:World)(hv:OwnE cellE Z w B 74 v C)(hZ:∀ b,w.heap.size<=b->Z b)(hB:B<=w.heap.size)(hw:wd<=1024)(hC:C.length<=wd):Calls Tryd.prog 65 #[v,.int .i64 (wd:Int),.bool wrap] w (fun e w'=>∃ v',e=.returned (.agg #[v',.bool wrap])/\OwnE cellE Z w' B 74 v' (C++List.replicate (wd - C.length) zc)/\Below B w w'/\KeepZ (fun b=>v.ownBlock≠some b) w w'):=by
 obtain ⟨g6,ng⟩:=ab (w.heap.size);obtain ⟨Wa,jW⟩:=ab (w.alloc (.cells [Value.slice none 0 0,.bool false].toArray 30));have ba:Below w.heap.size w Wa:=by rw [jW];exact af _ _
 have ga:Has Wa g6 [.slice none 0 0,.bool false] 30:=by rw [jW,ng];exact Has.new w _ _
 have jx:=hv.lt;have mW:OwnE cellE (fun b=>Z b/\b≠g6) Wa B 74 v C:=(hv.keep (Y:=fun b=>Z b/\b≠g6) (.refl _ _) (fun b hb hz=>⟨hz,by omega⟩)).below ba;have hno:v.ownBlock≠some g6:=fun e=>by have:=(jx _ e).2;omega
 have HV:=aa mW;have HA:=aa ga;have HB:=aa (ba.mono hB);have m2:=aa (show w.alloc (.cells #[Value.slice none 0 0,.bool false] 30)=Wa from by rw [jW]);have HZ:=aa hZ;have jH:=aa hno;have HG6:=aa ng;have ju:=aa ba.size;have gW:=aa hB;have hka:=KeepZ.all ba (fun b=>v.ownBlock≠some b);have HKA:=aa hka;have HGB:=aa (show B<=g6 from by omega);obtain ⟨n,hn⟩:=ab (C.length);obtain ⟨d,hd⟩:=ab (wd - n);have HN:=aa hn;have HD:=aa hd;obtain ⟨o,ck,ev⟩:=((mW.keep (Y:=fun _=>True) (.refl _ _) (fun _ _ _=>trivial)).held (fun _ _ _=>trivial)).len;rw [<-hn] at ev;subst ev;have hwd:IntKind.i64.wrap ((wd:Int) - (n:Int))=(d:Int):=by rw [IntKind.wrap_i64];omega
 have mG:cG (d:Int)=d:=by unfold cG;omega
 have HBL:=aa (df (fun b=>(Z b/\b≠g6)/\(Value.slice o n ck).ownBlock≠some b) (d:Int) Wa);rw [mG] at HBL;have hdm:d<=1024:=by omega
 have hnm:n<=1024:=by omega
 clear jW ba ga jx mW hno hka mG ng hn hd hv hZ hB
 go_enter Tryd.func65,Tryd.ntmps65
 go_upto_region 1 with (fail)
 rw [m2.out,<-HG6.out]
 go_wp2_with fail
 refine (HBL.out).mono ?_;rintro e w2 ⟨bv,rfl,ho,b2⟩;have hbh:=ho.held (fun b hb _=>⟨⟨HZ.out b (Nat.le_trans ju.out hb),fun e=>by have:=HA.out.lt;omega⟩,fun e=>by have:=(HV.out.lt b e).2;omega⟩);have HU:=aa hbh;have HV2:=aa (HV.out.below b2);have HA2:=aa (HA.out.below b2 HA.out.lt);have hG:=aa (HB.out.trans (b2.mono (Nat.le_trans gW.out ju.out)));have ke:=aa (show KeepZ (fun b=>(Value.slice o n ck).ownBlock≠some b) w w2 from (HKA.out).trans ((KeepZ.all b2 _)));clear ho b2 hbh;have jP:=aa hG.out.size
 go_wp2_with (at_builtin;refine ai (E:=cellE) (Z:=fun b=>Z b/\b≠g6) rfl (.tmp 7) (.tmp 12) 28 rfl (.agg #[.int .i64 0,.slice none 0 0]) 32 Tryd.underlying28 bs rfl (by decide) rfl rfl HV2.out HU.out (by have:=HN.out;simp;omega) (by have:=HN.out;simp;omega) (show B<=w2.heap.size from Nat.le_trans gW.out jP.out) ?_)
 intro v3 w3 jg hb3 kF mo;have hno3:=mo g6 HA2.out.lt jH.out;have lZ:=aa (kF.has HA2.out jH.out);have lS:=aa jg;have iJ:=aa (hG.out.trans hb3);have m1:=aa (ke.out.trans kF);have HN3:=aa hno3;obtain ⟨o3,k3,ev3⟩:=((jg.keep (Y:=fun _=>True) (.refl _ _) (fun _ _ _=>trivial)).held (fun _ _ _=>trivial)).len;obtain ⟨n3,hn3⟩:=ab ((C++List.replicate d zc).length);rw [<-hn3] at ev3;subst ev3;have f0:=lZ.out.free 0;have f1:=lZ.out.free 1;have x0:=lZ.out.cell 0 _ rfl;have x1:=lZ.out.cell 1 _ rfl;obtain ⟨wt,hwt⟩:=ab ((w3.setCell ⟨g6,0,none⟩ (.slice o3 n3 k3)).setCell ⟨g6,1,none⟩ (.bool wrap));have hu:=((Upd.refl (fun z=>z=g6) w3).setCell (p:=⟨g6,0,none⟩) (.inl rfl) (.slice o3 n3 k3)).setCell (p:=⟨g6,1,none⟩) (.inl rfl) (.bool wrap);have HT:=aa (show Has wt g6 [.slice o3 n3 k3,.bool wrap] 30/\OwnE cellE (fun b=>Z b) wt B 74 (.slice o3 n3 k3) (C++List.replicate d zc)/\Below B w wt/\KeepZ (fun b=>(Value.slice o n ck).ownBlock≠some b) w wt from by
  rw [hwt];refine ⟨(lZ.out.set 0 _).set 1 _,(lS.out.upd hu (fun b hz e=>?_)).keep (.refl _ _) (fun _ _ hz=>hz.1),iJ.out.trans (hu.below (Nat.le_trans gW.out (Nat.le_trans jP.out hb3.size)) (fun z e=>by have:=HGB.out;omega)),⟨Nat.le_trans m1.out.size hu.size,fun b hb hz=>(hu.block b (Nat.lt_of_lt_of_le hb m1.out.size) (fun e=>by have:=HG6.out;omega)).trans (m1.out.block b hb hz)⟩⟩
  rcases hz with hz | hz
  ·exact hz.2 e
  ·subst e;exact HN3.out hz)
 have l8:=aa hwt.symm;clear hwt hu jg hb3 kF mo hno3 hn3;go_wp2;rw [l8.out];exact bodyPost_ret (v:=.agg [Value.slice o3 n3 k3,.bool wrap].toArray) (cW Tryd.results65 _ _ g6 30 _ _ 2 rfl HT.out.1 Tryd.underlying30 rfl (by kernel_rfl) rfl) rfl ⟨_,rfl,by rw [<-HN.out,<-HD.out];exact HT.out.2.1,HT.out.2.2.1,HT.out.2.2.2⟩
end Go.Proofs.YthdphijabffpiaaDoor
