import Derived.Test.YthdphijabffpiaaDoorZ0
import Derived.Test.YthdphijabffpiaaDoorRflB
import Derived.Test.YthdphijabffpiaaDoorMg2
import Derived.Test.YthdphijabffpiaaDoorMg4
import Derived.Test.YthdphijabffpiaaDoorMg1
import Derived.Test.YthdphijabffpiaaDoorMg3
set_option maxRecDepth 100000
set_option linter.unusedVariables false
set_option linter.unusedSimpArgs false
set_option maxHeartbeats 3000000
namespace Go.Proofs.YthdphijabffpiaaDoor
open Go.RowKit Go.ChangeShapes Go.WideShapes
theorem eV(sa:Nat->Addr)(Z:ak)(v:Value)(L:List Cl)(w:World)(ic:F.Sents w sa)(hv:HeldE cellE Z w v L)(hl:L.length<=1000000)(w0:Int)(n:Nat)(hn:n<L.length)(hr:∀ k,k<n->ap (L.getD k zc)=true)(hb:ap (L.getD n zc)=false):Calls Tryd.prog 29 #[v,.int .i64 w0] w (fun e w'=>∃ u,e=.returned (.tuple #[.slice none 0 0,u])/\F.IsErr sa w' u [(n:Int)] 5/\Below w.heap.size w w'):=by
 have lg:=aa hr;have kr:=aa hb;have jq:=aa ic;have hv:=hv.lower;obtain ⟨ao,cap,rfl⟩:=hv.len;obtain ⟨_,_,hc⟩:=az hv;have HC:=aa hc;clear hc hv hr hb ic
 go_enter Tryd.func29,Tryd.ntmps29
 go_wp2
 go_loopw [15] (fun i wr=>∃ k:Nat,k<=n/\i=.int .i64 k/\Below w.heap.size w wr) (fun i _=>L.length - (intOf i).toNat)
 case atStart=>exact ⟨0,Nat.zero_le _,rfl,Below.refl _ _⟩
 case round =>
  obtain ⟨k,hk,rfl,gF⟩:=hrel;have gD:=aa gF;clear gF;have hlt:k<L.length:=by omega
  obtain ⟨b,off,tv,rfl,hb,_,c0,c1,hh⟩:=HC.out k hlt;have c0:=(gD.out.cell (p:=⟨b,off+k * 2,none⟩) hb).trans c0;have c1:=(gD.out.cell (p:=⟨b,off+k * 2+1,none⟩) hb).trans c1;obtain ⟨y,hy⟩:=ab (L.getD k zc);have HY:=aa hy;rw [<-hy] at c0 hh;obtain ⟨K,T⟩:=y;simp only at c0 hh;have g8:=hh.max;obtain ⟨ta,tc,rfl⟩:=hh.len;obtain ⟨W1,hW1⟩:=ab (wr.alloc (.cells #[.int .i64 K,.slice ta T.length tc] 59));have hb1:Below wr.heap.size wr W1:=by rw [hW1];exact af _ _
  have gG:=aa (gD.out.trans (hb1.mono gD.out.size));have hq:=da K _ T W1 (hh.below gG.out).ints g8;subst hW1;clear hy hh hb1 hb
  by_cases iw:k<n
  ·rw [HY.out,lg.out k iw] at hq;have HQ:=aa hq;clear hq
   go_wp2_with fail
   refine HQ.out.mono ?_;rintro e w2 ⟨rfl,b2⟩;have gH:=aa (gG.out.trans (b2.mono gG.out.size));clear b2 HQ;go_wp2
   go_roundw
   case rel=>exact ⟨k+1,by omega,by go_num,gH.out⟩
   case measure=>simp [intOf] <;> omega
  ·obtain rfl:k=n:=by omega
   rw [HY.out,kr.out] at hq;have HQ:=aa hq;clear hq
   go_wp2_with fail
   refine HQ.out.mono ?_;rintro e w2 ⟨rfl,b2⟩;have gH:=aa (gG.out.trans (b2.mono gG.out.size));have c4:=(jq.out.below gH.out).cell 4 (by decide);simp only [F.glob] at c4;clear b2 HQ c0 c1
   go_wp2_with fail
   refine (F.wrong_any w2 (k:Int) _ _).mono ?_;rintro e w3 ⟨rfl,rfl⟩;have ij:=aa (gH.out.alloc gH.out.size (.cells #[.int .i64 k,.iface 163 (.pointer (some (sa 4)))] 94));have hH:=Has.new w2 [.int .i64 k,.iface 163 (.pointer (some (sa 4)))] 94;have HE:=aa (F.IsErr.fault _ 0 _ _ [] 5 (hH.cell 0 _ rfl) (hH.cell 1 _ rfl) (F.IsErr.sent (sa:=sa) 4 (by decide)));clear hH c4;go_wp2
   go_ret2
   exact ⟨_,rfl,HE.out,ij.out⟩
def rlE:Elem (Value × Bool) where
 size:=2
 zero:=(.slice none 0 0,false)
 rep:=fun _ _ C x=>C=[x.1,.bool x.2]/\x.1.oneCell'=true
 len:=by rintro _ _ _ _ ⟨rfl,_⟩;rfl
 one:=by
  rintro _ _ _ _ ⟨rfl,h⟩ u hu
  simp at hu
  rcases hu with rfl | rfl
  ·exact h
  ·rfl
 keep:=fun _ _ h=>h
def zrl:Value × Bool:=(.slice none 0 0,false)
theorem ge:(Tryd.prog.info? 30).map (fun i=>(i.zero,i.size,i.bytes))=some (some (.agg #[.slice none 0 0,.bool false]),rlE.size,32):=by kernel_rfl
theorem fy{α:Type}{E:Elem α}{Z:ak}{w:World}{B:Nat}{ty:TypeId}{v:Value}{L:List α}(h:OwnE E Z w B ty v L)(hne:L≠[]):∃ g cap,v=.slice (some ⟨g,0,none⟩) L.length cap:=by
 obtain ⟨CS,h1,_,_⟩:=h
 rcases h1.2 with ⟨e,h2⟩ | ⟨g',cap',cur,e,_⟩
 ·exfalso;have:L.length=0:=by simp at h2 ⊢;first | exact h2 | omega | (simp_all)
  exact hne (List.eq_nil_of_length_eq_zero this)
 ·exact ⟨g',cap',e⟩
theorem gm{Z:ak}{w:World}{B g n cap:Nat}{ty:TypeId}{vs:List (Value × Bool)}(h:OwnE rlE Z w B ty (.slice (some ⟨g,0,none⟩) n cap) vs){i:Nat}(hi:i<vs.length):w.cell? ⟨g,i * 2,none⟩=some (vs.getD i zrl).1/\w.cell? ⟨g,i * 2+1,none⟩=some (.bool (vs.getD i zrl).2)/\w.frozen? ⟨g,i * 2+1,none⟩=false:=by
 obtain ⟨C,hC,hr,_⟩:=(OwnE.each h).at hi;subst hr;have h0:=(hC 0 (by decide)).1;have h1:=hC 1 (by decide);exact ⟨h0,h1.1,h1.2⟩
theorem gh{Z:ak}{w:World}{B g n cap i:Nat}{ty:TypeId}{vs:List (Value × Bool)}(h:OwnE rlE Z w B ty (.slice (some ⟨g,0,none⟩) n cap) vs)(hi:i<vs.length)(b:Bool):OwnE rlE Z (w.setCell ⟨g,i * 2+1,none⟩ (.bool b)) B ty (.slice (some ⟨g,0,none⟩) n cap) (vs.set i ((vs.getD i zrl).1,b)):=by
 obtain ⟨CS,h1,h2,h3⟩:=h;have gR:=aZ h2 h3;have hn:n=vs.length:=by
  rcases h1.2 with ⟨e,_⟩ | ⟨g',cap',cur,e,_⟩
  ·cases e
  ·simp only [Value.slice.injEq] at e;exact e.2.1
 subst hn;have hst:=(h1.stored (i * 2+1) (.bool b)).1;have lf:=dU gR i 1 (.bool b) (by omega) (by decide);rw [show rlE.size=2 from rfl] at lf;rw [lf] at hst;refine ⟨_,by rw [List.length_set];exact hst,by simp [h2],fun j hj=>?_⟩;rw [List.length_set] at hj;have hj0:=h3 j hj
 by_cases e:j=i
 ·subst e;obtain ⟨hv,hh⟩:=hj0;rw [show (CS.set j ((CS.getD j []).set 1 (.bool b))).getD j []=(CS.getD j []).set 1 (.bool b) from by simp [List.getD,List.getElem?_set_self (show j<CS.length by omega)],hv,dx _ _ _ _ _ hj,if_pos rfl];exact ⟨rfl,hh⟩
 ·rw [show (CS.set i ((CS.getD i []).set 1 (.bool b))).getD j []=CS.getD j [] from by simp [List.getD,List.getElem?_set,Ne.symm e],dx _ _ _ _ _ hi,if_neg e];exact hj0
theorem ee(w:Nat)(x:Cl):am (ay w x)=true:=by
 unfold ay
 split
 ·decide
 ·exact fr _ _
theorem cd:∀ n:Nat,am (List.replicate n zc)=true
 | 0=>rfl
 | n+1=>by rw [List.replicate_succ,<-List.singleton_append];exact cr (by decide) (cd n)
theorem df{w:Nat}{C:List Cl}(g:Bool)(hl:C.length<=w)(hs:am C=true):(aS w C g).1.length=w/\am (aS w C g).1=true/\(aS w C g).2=g :=
 ⟨by unfold aS;simp;omega,cr hs (cd _),rfl⟩
theorem dg(w:Nat)(X:List Cl)(h:1<=w)(hr:∀ k,k<X.length->ap (X.getD k zc)=true):∀ k,k<=X.length->(∀ l ∈ (aJ w X k).1,l.1.length=w/\am l.1=true/\l.2=true)/\am (aJ w X k).2=true
 |0=>fun _=>⟨fun l hl=>absurd hl List.not_mem_nil,rfl⟩
 |k+1=>fun hk=>by
  obtain ⟨h1,h2⟩:=dg w X h hr k (by omega);have hs:=ee w (X.getD k zc);have hc:=(bk w X h k).1;unfold aJ
  split
  ·refine ⟨fun l hl=>?_,hs⟩
   rcases List.mem_append.1 hl with hl | hl
   ·exact h1 l hl
   ·rw [List.mem_singleton.1 hl];exact df true hc h2
  ·exact ⟨h1,cr h2 hs⟩
theorem fx(w:Nat)(X:List Cl)(h:1<=w)(hr:∀ k,k<X.length->ap (X.getD k zc)=true):0<(aL w X).length/\∀ j,j<(aL w X).length->((aL w X).getD j zl).1.length=w/\am ((aL w X).getD j zl).1=true/\((aL w X).getD j zl).2=decide (j+1<(aL w X).length):=by
 obtain ⟨h1,h2⟩:=dg w X h hr X.length (Nat.le_refl _);have hc:=(bk w X h X.length).1;unfold aL;obtain ⟨Ls,hLs⟩:=ab ((aJ w X X.length).1);rw [<-hLs] at h1 ⊢;rw [List.length_append,List.length_singleton];refine ⟨by omega,fun j hj=>?_⟩;rw [aX]
 by_cases hl:j<Ls.length
 ·rw [if_pos hl,decide_eq_true (by omega)];refine h1 _ ?_;rw [show Ls.getD j zl=Ls[j] from by simp [List.getD,List.getElem?_eq_getElem hl]];exact List.getElem_mem _
 ·rw [if_neg hl,show j - Ls.length=0 by omega,decide_eq_false (by omega)];exact df false hc h2
theorem ef(X:List Cl):(∀ k,k<X.length->ap (X.getD k zc)=true)\/∃ m,m<X.length/\(∀ k,k<m->ap (X.getD k zc)=true)/\ap (X.getD m zc)=false:=by
 have key:∀ n,n<=X.length->(∀ k,k<n->ap (X.getD k zc)=true)\/∃ m,m<n/\(∀ k,k<m->ap (X.getD k zc)=true)/\ap (X.getD m zc)=false:=by
  intro n
  induction n with
  |zero=>exact fun _=>.inl fun k hk=>absurd hk (Nat.not_lt_zero _)
  |succ n ih =>
   intro hn
   rcases ih (by omega) with h | ⟨m,hm,h⟩
   ·by_cases hb:ap (X.getD n zc)=true
    ·refine .inl fun k hk=>?_
     rcases Nat.lt_or_ge k n with h9 | h9
     ·exact h k h9
     ·rw [show k=n by omega];exact hb
    ·exact .inr ⟨n,Nat.lt_succ_self _,h,Bool.eq_false_iff.2 hb⟩
   ·exact .inr ⟨m,by omega,h⟩
 exact key _ (Nat.le_refl _)
end Go.Proofs.YthdphijabffpiaaDoor
