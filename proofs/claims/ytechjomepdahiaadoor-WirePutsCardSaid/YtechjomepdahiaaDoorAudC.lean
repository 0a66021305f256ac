import Derived.Test.YtechjomepdahiaaDoorZ0
import Derived.Test.YtechjomepdahiaaDoorAudB
import Derived.Test.YtechjomepdahiaaDoorMg1
import Derived.Shelf.Abstract
set_option maxRecDepth 100000
set_option linter.unusedVariables false
set_option linter.unusedSimpArgs false
set_option maxHeartbeats 3000000
namespace Go.Proofs.YtechjomepdahiaaDoor
open Go.RowKit Go.ChangeShapes Go.WideShapes
theorem kp(i:Nat)(t:List Fnd)(p:List Int)(c:Nat):cU i (t++[(p,c)])=cU i t++[((i:Int) :: p,c)]:=by simp [cU]
theorem le(i:Nat)(t:List Fnd):(cU i t).length=t.length:=by simp [cU]
def LineJ(J:List Fnd->World->Prop)(T0:List Fnd)(i gf ft fi:Nat)(lb:Array Value)(t:List Fnd)(W:World):Prop :=
 J (T0++cU i t) W/\Has W ft [.func (.func gf) #[] lb] 153/\Has W fi [.int .i64 i] 3
theorem iF(sa:Nat->Addr)(wb:World)(go:Bool)(N:Nat)(gf:Nat)(lb:Array Value)(J:List Fnd->World->Prop)(hT:Tells sa wb go N gf lb J)(T0:List Fnd)(i ft fi:Nat)(hgo:go=true\/T0=[])
  (t:List Fnd) (u:Value) (path:List Int) (code:Nat) (W:World) (hg:go=true\/t=[]) (ht:T0.length+t.length<N) (hJ:LineJ J T0 i gf ft fi lb t W) (hW:Below wb.heap.size wb W) (he:ErrT sa W u path code) :
  Calls Tryd.prog 108 #[u,.pointer (some ⟨ft,0,none⟩),.pointer (some ⟨fi,0,none⟩)] W (fun e W'=>e=.returned (.bool go)/\LineJ J T0 i gf ft fi lb (t++[(path,code)]) W'/\Qt wb W W'):=by
 obtain ⟨T,x0,rfl⟩:=he.iface;have HT:=aa hT;have rG:=aa hT.enter;have xu:=aa hJ.2.1;have sq:=aa hJ.2.2;have HJ:=aa hJ.1;have HE:=aa he;have HW:=aa hW;have vq:=aa (show go=true\/T0++cU i t=[] from by
  rcases hg with e | e
  ·exact .inl e
  ·rcases hgo with f | f
   ·exact .inl f
   ·exact .inr (by rw [e,f];rfl))
 have vC:=aa (show (T0++cU i t).length<N by rw [List.length_append,le];exact ht);have HP:=aa (show T0++cU i (t++[(path,code)])=(T0++cU i t)++[((i:Int) :: path,code)] from by rw [kp,List.append_assoc]);clear hT hJ he hW hg hgo ht
 go_enter Tryd.func108,Tryd.ntmps108
 go_upto_region 1 with (fail)
 obtain ⟨pN,qD⟩ : ∃ CC:Array Bool->Value->World->Prop,CC=fun L4 x w'=>(Mix.one L4 4=0->Below W.heap.size W w')/\(Mix.one L4 3=1->Mix.one L4 4=0->∃ q,x=.iface 132 (.pointer (some q))/\ErrT sa w' x ((i:Int) :: path) code)/\(Mix.one L4 4=1->J ((T0++cU i t)++[((i:Int) :: path,code)]) w'/\Qt wb W w'):=⟨_,rfl⟩
 obtain ⟨Xrg,tB,Hrgx,Hrgxb⟩:=Reg.xT;obtain ⟨Erg,Hrgst,qf,qa,qy,qb,pF,qe,_,_⟩:=Reg.e8 Xrg
  (fun xx _=>xx=.func (.func gf) #[] lb)
  (fun xx _=>xx=.int .i64 i)
  (fun xx _=>xx=.iface T x0)
  (fun x _=>∃ q,x=.iface 132 (.pointer (some q)))
  (fun xx _=>xx=.bool go)
  (fun xx _=>xx=.bool go)
  (fun _ _=>True) (fun _ _=>True)
  (s3:=fun x w w1 hx h=>by rw [tB] at hx;exact h)
 have Hrgk:Hid (∀ i L {x:Value} w,(i == 3 || i == 4)=false ->  pN L x w->pN (L.setIfInBounds i true) x w):=aa (by
  intro i L x w q h;simp only [Bool.or_eq_false_iff,beq_eq_false_iff_ne] at q;rw [qD] at h ⊢;simp only [Mix.one_ne q.1,Mix.one_ne q.2];exact h)
 have Hrgb:Hid (∀ L {x:Value} w w1,pN L x w->Below w.heap.size w w1->pN L x w1):=aa (by
  intro L x w w1 h hb;rw [qD] at h ⊢;exact ⟨fun e=>(h.1 e).trans (hb.mono (h.1 e).size),fun e f=>by obtain ⟨q,e1,e2⟩:=h.2.1 e f;exact ⟨q,e1,e2.keep hb⟩,fun e=>⟨HT.out.keep _ _ _ (h.2.2 e).1 hb,(h.2.2 e).2.trans (Qt.ofBelow hb)⟩⟩)
 have Hrgc:=aa (show ∀ x,pN (Array.replicate 6 false) x W.drew from fun x=>by rw [qD];exact ⟨fun _=>(Below.refl _ _).drew,fun e=>absurd e (by decide),fun e=>absurd e (by decide)⟩);have qc:=aa (fun (i:Nat) L {x:Value} w v q (h:pN L x w) (e:Erg i v w)=>Reg.hk (Hrgk.out i L w q h) e (Hrgx.out w));have m6:=aa qD;have qo:=aa tB;clear qD tB
 go_wp2_with fail
 refine RegC.regionF 3 Erg pN Xrg Hrgst.out (by kernel_rfl) (by kernel_rfl) (by kernel_rfl) Hrgc.out (fun Frg oC=>?_);simp only [Reg.frame,Reg.dsts,List.map_cons,List.map_nil,Mix.put_lit,List.set_cons_succ,List.set_cons_zero,Nat.zero_add,Nat.reduceAdd] at oC;refine ⟨⟨?_,?_,?_,?_,?_,?_,trivial⟩,?_⟩
 ·intro Lq wq xq hh;simp only [oC];refine Reg.go rfl ?_;have hc:pN Lq (xq 3) wq:=hh.cls;rw [m6.out] at hc;have hd:=xu.out.below (hc.1 (Mix.one_un (hh.notYet 4 (by kernel_rfl)))) xu.out.lt;have q0:=hd.cell 0 _ rfl;clear hc;have HK:=qc.out 0 _ _ _ rfl hh.cls ((qf.out _ _).mpr rfl);go_simp;exact HK.out
 ·intro Lq wq xq hh;simp only [oC];refine Reg.go rfl ?_;have hc:pN Lq (xq 3) wq:=hh.cls;rw [m6.out] at hc;have hd:=sq.out.below (hc.1 (Mix.one_un (hh.notYet 4 (by kernel_rfl)))) sq.out.lt;have q0:=hd.cell 0 _ rfl;clear hc;have HK:=qc.out 1 _ _ _ rfl hh.cls ((qa.out _ _).mpr rfl);go_simp;exact HK.out
 ·intro Lq wq xq hh;simp only [oC];refine Reg.go rfl ?_;have HK:=qc.out 2 _ _ _ rfl hh.cls ((qy.out _ _).mpr rfl);go_simp;exact HK.out
 ·intro Lq wq xq hh;simp only [oC,(qa.out _ _).mp (hh.v 1),(qy.out _ _).mp (hh.v 2)];refine Reg.go rfl ?_;unfold Reg.upon;have hc:pN Lq (xq 3) wq:=hh.cls;rw [m6.out] at hc;have hb4:=hc.1 (Mix.one_un (hh.notYet 4 (by kernel_rfl)));have he4:=HE.out.keep hb4;have hwe:=ec sa wq (i:Int) _ _ path code he4;have hbn:Below wq.heap.size wq (wq.alloc (.cells #[.int .i64 i,.iface T x0] 134)):=l7 _ _;clear hc;go_simp;refine (F.wrong_any wq (i:Int) _ _).mono ?_;rintro e w9 ⟨rfl,rfl⟩;have hF:pN (Lq.setIfInBounds 3 true) (.iface 132 (.pointer (some ⟨wq.heap.size,0,none⟩))) (wq.alloc (.cells #[.int .i64 i,.iface T x0] 134)):=by
   rw [m6.out];refine ⟨fun _=>hb4.trans (hbn.mono hb4.size),fun _ _=>⟨_,rfl,hwe⟩,fun e=>?_⟩;rw [Mix.one_ne (by decide),Mix.one_un (hh.notYet 4 (by kernel_rfl))] at e;exact absurd e (by decide)
  exact ⟨_,rfl,hF,(by rw [qb.out];exact ⟨_,rfl⟩),(by rw [qo.out];trivial)⟩
 ·intro Lq wq xq hh;have d3:=(qb.out _ _).mp (hh.v 3);simp only [oC,(qf.out _ _).mp (hh.v 0)];refine Reg.go rfl ?_;unfold Reg.upon;have hc:pN Lq (xq 3) wq:=hh.cls;rw [m6.out] at hc;have hb4:=hc.1 hh.un;obtain ⟨q,e1,e2⟩:=hc.2.1 (hh.isDone 3 (by kernel_rfl)) hh.un;have hst:=HT.out.step _ _ _ _ wq vq.out vC.out (HT.out.keep _ _ _ HJ.out hb4) (HW.out.trans (hb4.mono HW.out.size)) e2;rw [e1] at hst ⊢;clear hc e2;go_simp;rw [rG.out];go_simp;refine hst.mono ?_;rintro e w9 ⟨rfl,hj9,hu9⟩;have hF:pN (Lq.setIfInBounds 4 true) (xq 3) w9:=by
   rw [m6.out];refine ⟨fun e=>?_,fun _ e=>?_,fun _=>⟨hj9,(Qt.ofBelow hb4).trans hu9⟩⟩
   ·rw [Mix.one_set (by rw [hh.size];decide)] at e;exact absurd e (by decide)
   ·rw [Mix.one_set (by rw [hh.size];decide)] at e;exact absurd e (by decide)
  exact ⟨_,rfl,hF,(by rw [pF.out]),(by rw [qo.out];trivial)⟩
 ·intro Lq wq xq hh;simp only [oC,(pF.out _ _).mp (hh.v 4)];refine Reg.go rfl ?_;have HK:=qc.out 5 _ _ _ rfl hh.cls ((qe.out _ _).mpr rfl);go_simp;exact HK.out
 intro xq wrg sX sl;rw [m6.out] at sX;simp only [oC];have vrg4:=(pF.out _ _).mp (sl 4 (by decide));rw [vrg4];have vrg5:=(qe.out _ _).mp (sl 5 (by decide));rw [vrg5];clear sl oC qc Hrgk Hrgx Hrgst Hrgc m6 qo Hrgb Hrgxb qf qa qy qb pF qe;obtain ⟨hj,hu⟩:=sX.2.2 (by kernel_rfl);have HF:=aa (show LineJ J T0 i gf ft fi lb (t++[(path,code)]) wrg/\Qt wb W wrg from ⟨⟨by rw [HP.out];exact hj,hu.has xu.out (by decide),hu.has sq.out (by decide)⟩,hu⟩);clear sX hj hu;go_wp2;go_ret;exact ⟨ae,HF.out⟩
theorem LineJ.tells{sa:Nat->Addr}{wb:World}{go:Bool}{N:Nat}{gf:Nat}{lb:Array Value}{J:List Fnd->World->Prop}(hT:Tells sa wb go N gf lb J)(T0:List Fnd)(i ft fi M:Nat)(hgo:go=true\/T0=[])(hM:T0.length+M<=N) :
  Tells sa wb go M 108 #[.pointer (some ⟨ft,0,none⟩),.pointer (some ⟨fi,0,none⟩)] (LineJ J T0 i gf ft fi lb) where
 enter:=enters_of Tryd.func108 (by kernel_rfl) rfl
 keep:=fun t A B h hb=>⟨hT.keep _ _ _ h.1 hb,h.2.1.below hb h.2.1.lt,h.2.2.below hb h.2.2.lt⟩
 step:=fun t u path code W hg ht hJ hW he=>iF sa wb go N gf lb J hT T0 i ft fi hgo t u path code W hg (Nat.lt_of_lt_of_le (Nat.add_lt_add_left ht T0.length) hM) hJ hW he
end Go.Proofs.YtechjomepdahiaaDoor
