import Derived.Test.YtechjomepdahiaaDoorZ0
import Derived.Test.YtechjomepdahiaaDoorGrdR
import Derived.Test.YtechjomepdahiaaDoorMg3
import Derived.Test.YtechjomepdahiaaDoorMg5
import Derived.Test.YtechjomepdahiaaDoorMg2
import Derived.Test.YtechjomepdahiaaDoorCellU
import Derived.Test.YtechjomepdahiaaDoorMg1
import Derived.Test.YtechjomepdahiaaDoorCellO
import Derived.Test.YtechjomepdahiaaDoorCellP
import Derived.Lib.MinMax
import Derived.Deep.Cut
import Derived.ProofKit
set_option maxRecDepth 100000
set_option linter.unusedVariables false
set_option linter.unusedSimpArgs false
set_option maxHeartbeats 2000000
namespace Go.Proofs.YtechjomepdahiaaDoor
open Go.RowKit Go.ChangeShapes Go.WideShapes
def cf(n0:Nat)(l:Ln):Nat:=if l.1.length=0\/1024<l.1.length then 3 else if aj l.1=false then 5 else if l.1.length≠n0 then 3 else 0
def cg(Ls:List Ln):Nat:=(Ls.getD 0 zl).1.length
def cx(Ls:List Ln):Prop:=∀ k,k<Ls.length->cf (cg Ls) (Ls.getD k zl)=0
def bV(Ls:List Ln)(i c:Nat):Prop:=i<Ls.length/\(∀ j,j<i->cf (cg Ls) (Ls.getD j zl)=0)/\cf (cg Ls) (Ls.getD i zl)=c/\c≠0
theorem dJ(Ls:List Ln):cx Ls\/∃ i c,bV Ls i c:=by
 have h:∀ n,n<=Ls.length->(∀ j,j<n->cf (cg Ls) (Ls.getD j zl)=0)\/∃ i c,bV Ls i c:=by
  intro n
  induction n with
  |zero=>intro _;exact .inl fun j hj=>absurd hj (Nat.not_lt_zero _)
  |succ n ih =>
   intro hn
   rcases ih (by omega) with h | h
   ·by_cases e:cf (cg Ls) (Ls.getD n zl)=0
    ·refine .inl fun j hj=>?_
     by_cases ej:j=n
     ·subst ej;exact e
     ·exact h j (by omega)
    ·exact .inr ⟨n,_,by omega,h,rfl,e⟩
   ·exact .inr h
 exact h Ls.length (Nat.le_refl _)
theorem d9{Ls:List Ln}{i c:Nat}(h:∀ j,j<Ls.length->cf (cg Ls) (Ls.getD j zl)=0)(hb:bV Ls i c):False:=hb.2.2.2 (hb.2.2.1.symm.trans (h i hb.1))
def WrongTold(w:World)(Ls:List Ln)(e:Ending)(w':World):Prop:=(cx Ls->e=.returned (.tuple #[.int .i64 (-1),.int .i64 0]))/\(∀ i c:Nat,bV Ls i c->e=.returned (.tuple #[.int .i64 i,.int .i64 c]))/\Below w.heap.size w w'
section
section
variable {w w' : World} {B gg wd : Nat} {v v' : Value} {Xs Xs' : List (Option Nat)} {Rs : List Rw}
end
end
def GridM(M:Nat)(w:World)(B gg gr wd:Nat)(Rs:List Rw):Prop :=
 M<=w.heap.size/\∃ (Z:ai) (cap:Nat),(∀ b,Z b->B<=b/\b<M)/\gg<M/\gr<M/\(∀ i,i<Rs.length->(Rs.getD i r0).g<M/\(Rs.getD i r0).gc<M)/\Has w gg [.int .i64 wd,.slice (some ⟨gr,0,none⟩) Rs.length cap] 111/\B<=gg/\OwnE cJ (fun _=>True) w B 112 (.slice (some ⟨gr,0,none⟩) Rs.length cap) (ptrs Rs)/\¬ Z gg/\¬ Z gr/\RowsAt Z w B Rs/\(∀ i,i<Rs.length->(Rs.getD i r0).L.length=wd)/\0<Rs.length/\Rs.length<=1024
theorem GridM.at{M:Nat}{w:World}{B gg gr wd:Nat}{Rs:List Rw}(h:GridM M w B gg gr wd Rs):dY w B gg gr wd Rs:=by
 obtain ⟨hM,Z,cap,h1,k1,k2,k3,h2,h3,h4,h5,h6,h7,h8,h9,h10⟩:=h;exact ⟨Z,cap,fun b hz=>⟨(h1 b hz).1,Nat.lt_of_lt_of_le (h1 b hz).2 hM⟩,h2,h3,h4,h5,h6,h7,h8,h9,h10,fun _ _=>trivial⟩
theorem GridM.keep{M:Nat}{S:ai}{w w':World}{B gg gr wd:Nat}{Rs:List Rw}(h:GridM M w B gg gr wd Rs)(hu:Upd S w w')(hs:∀ b,B<=b->b<M->¬ S b):GridM M w' B gg gr wd Rs:=by
 obtain ⟨hM,Z,cap,h1,k1,k2,k3,h2,h3,h4,h5,h6,h7,h8⟩:=h;have hk:=hu.keep;refine ⟨Nat.le_trans hM hu.size,Z,cap,h1,k1,k2,k3,hk.has h2 (hs _ h3 k1),h3,?_,h5,h6,h7.upd hu (fun b hz=>hs b (h1 b hz).1 (h1 b hz).2) (fun i hi=>⟨hs _ (h7.lt i hi).2.2.2 (k3 i hi).1,hs _ (h7.lt i hi).2.2.1 (k3 i hi).2⟩),h8⟩;exact cK (hk.own h4.ptrs fun b hb=>by
  have:gr=b:=by simpa [Value.ownBlock] using hb
  subst this;exact hs _ (h4.lt gr rfl).1 k2)
theorem GridM.below{M:Nat}{w w':World}{B gg gr wd:Nat}{Rs:List Rw}(h:GridM M w B gg gr wd Rs)(hb:Below w.heap.size w w'):GridM M w' B gg gr wd Rs:=h.keep (S:=fun _=>False) (.ofBelow hb) fun _ _ _ e=>e
theorem WrongTold.say{w w':World}{Ls:List Ln}{e:Ending}(h:WrongTold w Ls e w'):∃ a c:Int,e=.returned (.tuple #[.int .i64 a,.int .i64 c])/\((cx Ls/\a = -1)\/(0<=a/\¬ cx Ls))/\Below w.heap.size w w':=by
 obtain ⟨h1,h2,h3⟩:=h
 rcases dJ Ls with hg | ⟨i,c,hf⟩
 ·exact ⟨-1,0,h1 hg,.inl ⟨hg,rfl⟩,h3⟩
 ·exact ⟨i,c,h2 i c hf,.inr ⟨by omega,fun hg=>d9 hg hf⟩,h3⟩
abbrev Fnd:=List Int × Nat
def cS(i:Nat)(t:List Fnd):List Fnd:=t.map fun x=>((i:Int) :: x.1,x.2)
structure Vw where
 w:Int
 h:Int
 L:List Ln
 r:Int
 c:Int
 pd:Bool
 au:Bool
theorem cD(Z:ai)(B:Nat)(v:Value)(C:List Cl)(wd:Nat)(wrap:Bool)(w:World)(hv:OwnE cellE Z w B 85 v C)(hZ:∀ b,w.heap.size<=b->Z b)(hB:B<=w.heap.size)(hw:wd<=1024)(hC:C.length<=wd):Calls Tryd.prog 43 #[v,.int .i64 (wd:Int),.bool wrap] w (fun e w'=>∃ v',e=.returned (.agg #[v',.bool wrap])/\OwnE cellE Z w' B 85 v' (C++List.replicate (wd - C.length) zc)/\Below B w w'/\KeepZ (fun b=>v.ownBlock≠some b) w w'):=by
 obtain ⟨g6,jZ⟩:=ab (w.heap.size);obtain ⟨Wa,gI⟩:=ab (w.alloc (.cells [Value.slice none 0 0,.bool false].toArray 69));have ba:Below w.heap.size w Wa:=by rw [gI];exact af _ _
 have ga:Has Wa g6 [.slice none 0 0,.bool false] 69:=by rw [gI,jZ];exact Has.new w _ _
 have hlo:=hv.lt;have jR:OwnE cellE (fun b=>Z b/\b≠g6) Wa B 85 v C:=(hv.keep (Y:=fun b=>Z b/\b≠g6) (.refl _ _) (fun b hb hz=>⟨hz,by omega⟩)).below ba;have hno:v.ownBlock≠some g6:=fun e=>by have:=(hlo _ e).2;omega
 have HV:=aa jR;have HA:=aa ga;have HB:=aa (ba.mono hB);have HWA:=aa (show w.alloc (.cells #[Value.slice none 0 0,.bool false] 69)=Wa from by rw [gI]);have HZ:=aa hZ;have gw:=aa hno;have HG6:=aa jZ;have HSA:=aa ba.size;have fz:=aa hB;have hka:=KeepZ.all ba (fun b=>v.ownBlock≠some b);have HKA:=aa hka;have HGB:=aa (show B<=g6 from by omega);obtain ⟨n,hn⟩:=ab (C.length);obtain ⟨d,hd⟩:=ab (wd - n);have HN:=aa hn;have HD:=aa hd;obtain ⟨o,ck,ev⟩:=((jR.keep (Y:=fun _=>True) (.refl _ _) (fun _ _ _=>trivial)).held (fun _ _ _=>trivial)).len;rw [<-hn] at ev;subst ev;have hwd:IntKind.i64.wrap ((wd:Int) - (n:Int))=(d:Int):=by rw [IntKind.wrap_i64];omega
 have i9:cc (d:Int)=d:=by unfold cc;omega
 have HBL:=aa (cE (fun b=>(Z b/\b≠g6)/\(Value.slice o n ck).ownBlock≠some b) (d:Int) Wa);rw [i9] at HBL;have hdm:d<=1024:=by omega
 have hnm:n<=1024:=by omega
 clear gI ba ga hlo jR hno hka i9 jZ hn hd hv hZ hB
 go_enter Tryd.func43,Tryd.ntmps43
 go_upto_region 1 with (fail)
 rw [HWA.out,<-HG6.out]
 go_wp2_with fail
 refine (HBL.out).mono ?_;rintro e w2 ⟨bv,rfl,ho,b2⟩;have hbh:=ho.held (fun b hb _=>⟨⟨HZ.out b (Nat.le_trans HSA.out hb),fun e=>by have:=HA.out.lt;omega⟩,fun e=>by have:=(HV.out.lt b e).2;omega⟩);have HU:=aa hbh;have HV2:=aa (HV.out.below b2);have HA2:=aa (HA.out.below b2 HA.out.lt);have fF:=aa (HB.out.trans (b2.mono (Nat.le_trans fz.out HSA.out)));have iO:=aa (show KeepZ (fun b=>(Value.slice o n ck).ownBlock≠some b) w w2 from (HKA.out).trans ((KeepZ.all b2 _)));clear ho b2 hbh;have gY:=aa fF.out.size
 go_wp2_with (at_builtin;refine an (E:=cellE) (Z:=fun b=>Z b/\b≠g6) rfl (.tmp 7) (.tmp 12) 67 rfl (.agg #[.int .i64 0,.slice none 0 0]) 32 Tryd.underlying67 bz rfl (by decide) rfl rfl HV2.out HU.out (by have:=HN.out;simp;omega) (by have:=HN.out;simp;omega) (show B<=w2.heap.size from Nat.le_trans fz.out gY.out) ?_)
 intro v3 w3 fT hb3 jT g8;have hno3:=g8 g6 HA2.out.lt gw.out;have iK:=aa (jT.has HA2.out gw.out);have jF:=aa fT;have gE:=aa (fF.out.trans hb3);have jC:=aa (iO.out.trans jT);have HN3:=aa hno3;obtain ⟨o3,k3,ev3⟩:=((fT.keep (Y:=fun _=>True) (.refl _ _) (fun _ _ _=>trivial)).held (fun _ _ _=>trivial)).len;obtain ⟨n3,hn3⟩:=ab ((C++List.replicate d zc).length);rw [<-hn3] at ev3;subst ev3;have f0:=iK.out.free 0;have f1:=iK.out.free 1;have x0:=iK.out.cell 0 _ rfl;have x1:=iK.out.cell 1 _ rfl;obtain ⟨wt,hwt⟩:=ab ((w3.setCell ⟨g6,0,none⟩ (.slice o3 n3 k3)).setCell ⟨g6,1,none⟩ (.bool wrap));have hu:=((Upd.refl (fun z=>z=g6) w3).setCell (p:=⟨g6,0,none⟩) (.inl rfl) (.slice o3 n3 k3)).setCell (p:=⟨g6,1,none⟩) (.inl rfl) (.bool wrap);have HT:=aa (show Has wt g6 [.slice o3 n3 k3,.bool wrap] 69/\OwnE cellE (fun b=>Z b) wt B 85 (.slice o3 n3 k3) (C++List.replicate d zc)/\Below B w wt/\KeepZ (fun b=>(Value.slice o n ck).ownBlock≠some b) w wt from by
  rw [hwt];refine ⟨(iK.out.set 0 _).set 1 _,(jF.out.upd hu (fun b hz e=>?_)).keep (.refl _ _) (fun _ _ hz=>hz.1),gE.out.trans (hu.below (Nat.le_trans fz.out (Nat.le_trans gY.out hb3.size)) (fun z e=>by have:=HGB.out;omega)),⟨Nat.le_trans jC.out.size hu.size,fun b hb hz=>(hu.block b (Nat.lt_of_lt_of_le hb jC.out.size) (fun e=>by have:=HG6.out;omega)).trans (jC.out.block b hb hz)⟩⟩
  rcases hz with hz | hz
  ·exact hz.2 e
  ·subst e;exact HN3.out hz)
 have jI:=aa hwt.symm;clear hwt hu fT hb3 jT g8 hno3 hn3;go_wp2;rw [jI.out];exact bodyPost_ret (v:=.agg [Value.slice o3 n3 k3,.bool wrap].toArray) (cp Tryd.results43 _ _ g6 69 _ _ 2 rfl HT.out.1 Tryd.underlying69 rfl (by kernel_rfl) rfl) rfl ⟨_,rfl,by rw [<-HN.out,<-HD.out];exact HT.out.2.1,HT.out.2.2.1,HT.out.2.2.2⟩
end Go.Proofs.YtechjomepdahiaaDoor
