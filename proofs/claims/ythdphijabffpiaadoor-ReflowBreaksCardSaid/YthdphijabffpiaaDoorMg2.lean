import Derived.Test.YthdphijabffpiaaDoorZ0
import Derived.Test.YthdphijabffpiaaDoorErfA
import Derived.Test.YthdphijabffpiaaDoorRows
import Derived.LaidMore
import Derived.Test.YthdphijabffpiaaDoorErrS
set_option maxRecDepth 100000
set_option linter.unusedVariables false
set_option linter.unusedSimpArgs false
set_option maxHeartbeats 400000
namespace Go.Proofs.YthdphijabffpiaaDoor.F
open Go.RowKit
theorem Handle.keep{w w':World}(h:Handle w)(hb:Below w.heap.size w w'):Handle w':=(hb.cell (p:=⟨8,0,none⟩) (World.block_lt_of_cell? _ _ h)).trans h
theorem dZ(w:World)(a:Addr)(v u:Value)(h:w.cell? a=some u):(w.setCell a v).cell? a=some v:=World.cell?_setCell_same' w a v (by rw [h];rfl)
theorem at_any(sa:Nat->Addr)(w:World)(hg:Handle w)(e:Value)(ps:List Int)(c:Nat)(he:ErrV sa w e ps c) :
  Calls Tryd.prog 15 #[e] w fun r w'=>r=.returned (.int .i64 (ps.headD (-1)))/\Below w.heap.size w w':=by
 have hg1:Handle (w.alloc (.cells #[.pointer none] 90)):=hg.keep (af _ _)
 rcases he with ⟨rfl,rfl,rfl⟩ | he
 ·go_enter Tryd.func15,Tryd.ntmps15
  go_wp2;go_ret;exact ⟨rfl,af _ _⟩
 ·cases he with
  |sent k hk =>
   have HM:=aa (gA (sa k) ⟨w.heap.size,0,none⟩ _ hg1);clear hg hg1
   go_enter Tryd.func15,Tryd.ntmps15
   go_wp2_with (go_at_call 52;refine HM.out.mono ?_;rintro e w2 ⟨rfl,hw⟩;have hb2:Below w.heap.size w w2:=(by rw [<-hw];go_grown);clear hw)
   go_ret;exact ⟨rfl,hb2⟩
  |fault b off at_ e' qs _ h0 h1 h =>
   have hlt:b<w.heap.size:=World.block_lt_of_cell? w ⟨b,off,none⟩ h0;have HM:=aa (gN ⟨b,off,none⟩ ⟨w.heap.size,0,none⟩ (.pointer none) _ hg1 (by simp) (by simp));have H0:=aa h0;clear hg hg1 h h1 h0
   go_enter Tryd.func15,Tryd.ntmps15
   go_wp2_with (go_at_call 52;refine HM.out.mono ?_;rintro e w2 ⟨rfl,hw⟩;have hb2:Below w.heap.size w w2:=(by rw [<-hw];go_grown);have hct:w2.cell? ⟨w.heap.size,0,none⟩=some (.pointer (some ⟨b,off,none⟩)):=(by rw [<-hw];exact dZ _ _ _ (.pointer none) (by rw [World.cell?_alloc_lt _ _ ⟨w.heap.size,0,none⟩ (by simp;omega),World.cell?_alloc_lt _ _ ⟨w.heap.size,0,none⟩ (by simp;omega),World.cell?_alloc_lt _ _ ⟨w.heap.size,0,none⟩ (by simp;omega),World.cell?_alloc_lt _ _ ⟨w.heap.size,0,none⟩ (by simp)];simp));have hc0:w2.cell? ⟨b,off,none⟩=some (.int .i64 at_):=(hb2.cell (p:=⟨b,off,none⟩) hlt).trans H0.out;clear hw)
   go_ret;exact ⟨rfl,hb2⟩
end Go.Proofs.YthdphijabffpiaaDoor.F
namespace Go.Proofs.YthdphijabffpiaaDoor.F
open Go.RowKit Go.ChangeShapes
def sentD (t : List UInt8) : DataW Unit := .iface "*errors.errorString" (.ptr (.agg [.lit (.string t)]))
theorem laidVars_sents{P:Program}{W:World}{ti tp te ts:TypeId}{ms:Array (String × TypeId)}{f:Field}
  (hi : P.underlying ti = some (.interface ms)) (hrow : ∀ u, P.typeName? 3 u = some "*errors.errorString" → u = tp)
  (hp:P.underlying tp=some (.pointer te)) (he:P.underlying te=some (.struct #[f])) (nb:f.type=ts) (km:f.offset=0) (hs:P.underlying ts=some .string) (hc:P.cellsOf te=1) (hcs:P.cellsOf ts=1) :
  ∀ (l:List (String × List UInt8 × Nat)) (ps:List MemPlace),(∀ x ∈ l,P.globalNamed x.1=some x.2.2/\(P.globals[x.2.2]?).map (·.type)=some ti) ->
   DataW.LaidVars P W (l.map fun x=>(x.1,sentD x.2.1)) ps ->
   (∀ b off,MemPlace.cell b off ∈ ps->(∃ c t,W.heap[b]? = some (.cells c t (0,0)))/\∀ u v,W.cell? ⟨b,off,none⟩=some (.iface u v)->Value.okWide P W .any 0 u v)->ps.Nodup ->
   ∃ ads : List Addr, ads.length = l.length ∧ (∀ k, k < l.length → W.cell? ⟨(l.getD k ("", [], 0)).2.2, 0, none⟩ = some (.iface tp (.pointer (some (ads.getD k default))))) ∧
    (∀ a ∈ ads,MemPlace.cell a.block a.off ∈ ps/\∃ c t,W.heap[a.block]? = some (.cells c t (0,0)))/\ads.Nodup:=by
 intro l
 induction l with
 |nil=>intro ps _ _ _ _;exact ⟨[],rfl,fun k hk=>by simp at hk,fun a ha=>by simp at ha,List.nodup_nil⟩
 |cons x l ih =>
  intro ps lB h hN jz;obtain ⟨n,tx,g⟩:=x;obtain ⟨g',t',cs,fuel,p,q,ka,lY,hv,hd,hq,rfl⟩:=h;obtain ⟨hg,ht⟩:=lB (n,tx,g) (by simp);obtain rfl:=Option.some.inj (hg.symm.trans ka);obtain rfl:=Option.some.inj (ht.symm.trans lY);obtain ⟨l0⟩:=cs;have ok0:∀ u v,l0=[.iface u v]->Value.okWide P W .any 0 u v:=fun u v e=>by
   subst e;exact (hN g 0 (by simp [MemPlace.row])).2 u v (by simpa using World.var?_cell ka hv 0)
  obtain ⟨a0,s0,rfl,hc0,hs0,hz0,rfl⟩:=errorString_of_trod hi hrow hp he nb km hs hc hcs hd ok0;have iQ:MemPlace.cell a0.block a0.off ∈ MemPlace.row a0 1:=by simp [MemPlace.row]
  obtain ⟨c0,t0,hb0⟩:=(hN a0.block a0.off (List.mem_append_left _ (List.mem_append_right _ iQ))).1;obtain ⟨ads,h1,h2,h3,h4⟩:=ih q (fun y hy=>lB y (by simp [hy])) hq (fun b off hm=>hN b off (List.mem_append_right _ hm)) (List.Nodup.sublist (List.sublist_append_right _ _) jz);refine ⟨a0 :: ads,by simp [h1],?_,?_,?_⟩
  ·intro k hk
   cases k with
   |zero=>simpa using World.var?_cell ka hv 0
   |succ k=>simpa using h2 k (by simpa using hk)
  ·intro a ha
   rcases List.mem_cons.1 ha with rfl | ha
   ·exact ⟨List.mem_append_left _ (List.mem_append_right _ iQ),c0,t0,hb0⟩
   ·exact ⟨List.mem_append_right _ (h3 a ha).1,(h3 a ha).2⟩
  ·refine List.nodup_cons.2 ⟨fun ha=>?_,h4⟩;have hm:=(h3 a0 ha).1;have lw:=(List.nodup_append.1 jz).2.2;exact lw _ (List.mem_append_right _ iQ) _ hm rfl
def sentList : List (String × List UInt8 × Nat) := [("linotype/api.ErrScalar", [115, 99, 97, 108, 97, 114], 0), ("linotype/api.ErrForm", [102, 111, 114, 109], 1), ("linotype/api.ErrRange", [114, 97, 110, 103, 101], 2),
 ("linotype/api.ErrLong", [108, 111, 110, 103], 3), ("linotype/api.ErrKind", [107, 105, 110, 100], 4), ("linotype/api.ErrWord", [119, 111, 114, 100], 5), ("linotype/api.ErrFull", [102, 117, 108, 108], 6), ("linotype/api.ErrNone", [110, 111, 110, 101], 7)]
theorem esRow : ∀ u, Tryd.prog.typeName? 3 u = some "*errors.errorString" → u = 163 := typeName_ptr_named (nm := "errors.errorString") (by kernel_rfl) (by kernel_rfl) (by decide)
theorem sents_of_laid{W:World}(h:laidMet Tryd.prog (sentList.map fun x=>(x.1,sentD x.2.1)) W):∃ sa,Sents W sa:=by
 obtain ⟨ps,hv,jz,hN⟩:=h;obtain ⟨ads,h1,h2,h3,h4⟩:=laidVars_sents Tryd.underlying36 esRow Tryd.underlying163 Tryd.underlying185 rfl rfl Tryd.underlying9 (by kernel_rfl) (by kernel_rfl) sentList ps
  (by intro x hx;simp only [sentList,List.mem_cons,List.not_mem_nil,or_false] at hx;rcases hx with rfl | rfl | rfl | rfl | rfl | rfl | rfl | rfl <;> exact ⟨by kernel_rfl,by kernel_rfl⟩) hv hN jz
 have hl:ads.length=8:=h1;refine ⟨fun k=>ads.getD k default,⟨?_,?_,?_⟩⟩
 ·intro k hk;have:=h2 k hk;rw [show glob k = (sentList.getD k ("", [], 0)).2.2 from by
   match k,hk with
   | 0,_ | 1,_ | 2,_ | 3,_ | 4,_ | 5,_ | 6,_ | 7,_=>rfl]
  exact this
 ·intro k hk;exact (h3 _ (by simp [List.getD,List.getElem?_eq_getElem (show k<ads.length by omega)])).2
 ·intro i j hi hj hne he;refine hne ?_;have e1:ads.getD i default=ads[i]'(by omega):=by simp [List.getD,List.getElem?_eq_getElem (show i<ads.length by omega)]
  have e2:ads.getD j default=ads[j]'(by omega):=by simp [List.getD,List.getElem?_eq_getElem (show j<ads.length by omega)]
  rw [e1,e2] at he;exact (List.getElem_inj h4).1 he
theorem du {W : World} {l : List (String × DataW Unit)} (h : handlesMet Tryd.prog l W) (hm : ("errors.errorType", Rows.laid_errors_errorType) ∈ l) : Handle W := by
 obtain ⟨name,u,ty,e1,e2,e3,e4,e5⟩:=h _ hm;have en:name=[101,114,114,111,114]:=(Option.some.inj e1).symm;subst en;obtain rfl := Option.some.inj ((show (Tryd.prog.cutTypes.find? (·.1 == "internal/reflectlite.rtype")).map (·.2) = some 148 by kernel_rfl).symm.trans e2);have lz:ty ∈ (List.range 197).filter fun t=>Tryd.prog.rowNamed t [101,114,114,111,114]:=List.mem_filter.2 ⟨List.mem_range.2 (by rw [<-show Tryd.prog.types.size=197 by kernel_rfl];exact e3),e4⟩
 rw [show ((List.range 197).filter fun t=>Tryd.prog.rowNamed t [101,114,114,111,114])=[36] by kernel_rfl] at lz;obtain rfl:=List.mem_singleton.1 lz;have hh:typeHandle Tryd.prog 36=.pointer (some ⟨9,36,none⟩):=by kernel_rfl
 rw [hh] at e5;unfold Handle
 simpa using World.var?_cell (show Tryd.prog.globalNamed "errors.errorType" = some 8 by kernel_rfl) e5 0
theorem errs_of_laid {W : World} (h : laidMetH Tryd.prog (("errors.errorType", Rows.laid_errors_errorType) :: sentList.map fun x => (x.1, sentD x.2.1)) W) : Handle W ∧ ∃ sa, Sents W sa := by
 have h' : laidMet Tryd.prog (sentList.map fun x => (x.1, sentD x.2.1)) W ∧ handlesMet Tryd.prog [("errors.errorType", Rows.laid_errors_errorType)] W := h;exact ⟨du h'.2 (by simp),sents_of_laid h'.1⟩
end Go.Proofs.YthdphijabffpiaaDoor.F
namespace Go.Proofs.YthdphijabffpiaaDoor.F
open Go.RowKit
end Go.Proofs.YthdphijabffpiaaDoor.F
