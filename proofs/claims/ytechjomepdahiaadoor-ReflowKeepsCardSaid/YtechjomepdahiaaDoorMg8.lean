import Derived.Test.YtechjomepdahiaaDoorZ0
import Derived.Test.YtechjomepdahiaaDoorAudD
import Derived.Laws.StructEq
import Derived.Test.YtechjomepdahiaaDoorMg3
import Derived.Lib.MinMax
import Derived.Deep.Cut
import Derived.Test.YtechjomepdahiaaDoorMg4
import Derived.Test.YtechjomepdahiaaDoorMg7
set_option maxRecDepth 100000
set_option linter.unusedVariables false
set_option linter.unusedSimpArgs false
set_option maxHeartbeats 1000000
namespace Go.Proofs.YtechjomepdahiaaDoor
open Go.RowKit Go.ChangeShapes Go.WideShapes
theorem fe{wb W W':World}{bx:Nat}{C:List Value}{t:TypeId}(hb:Has W bx C t)(ht:t=31\/t=163)(hl:wb.heap.size<=bx)(hu:Upd (fun b=>b=bx) W W'):Qt wb W W':=by
 refine ⟨fun e=>hu.below e fun b e=>by have h:b=bx:=e;omega,hu.size,fun b D ty hn hh=>hu.keep.has hh fun e=>?_⟩;have h:b=bx:=e;subst h
 rcases ht with ht | ht
 ·exact a7 hh hb (by rw [ht];exact hn.1)
 ·exact a7 hh hb (by rw [ht];exact hn.2)
def FirstJ(sa:Nat->Addr)(bx:Nat)(t:List Fnd)(W:World):Prop:=(t=[]/\Has W bx [.nilIface] 31)\/∃ u p c,t=[(p,c)]/\Has W bx [u] 31/\ErrT sa W u p c
theorem eh(sa:Nat->Addr)(wb:World)(bx:Nat)(iH:wb.heap.size<=bx)(u:Value)(path:List Int)(code:Nat)(W:World)(hb:Has W bx [.nilIface] 31)(he:ErrT sa W u path code) :
  Calls Tryd.prog 100 #[u,.pointer (some ⟨bx,0,none⟩)] W (fun e W'=>e=.returned (.bool false)/\FirstJ sa bx [(path,code)] W'/\Qt wb W W'):=by
 have HE:=aa (show FirstJ sa bx [(path,code)] (W.setCell ⟨bx,0,none⟩ u)/\Qt wb W (W.setCell ⟨bx,0,none⟩ u) from ⟨.inr ⟨u,path,code,rfl,hb.set 0 _,he.qt (fe hb (.inl rfl) iH ((Upd.refl (fun b=>b=bx) W).setCell (p:=⟨bx,0,none⟩) (.inl rfl) u))⟩,fe hb (.inl rfl) iH ((Upd.refl (fun b=>b=bx) W).setCell (p:=⟨bx,0,none⟩) (.inl rfl) u)⟩);obtain ⟨T,x0,rfl⟩:=he.iface;have k0:=hb.cell 0 _ rfl;have f0:=hb.free 0;clear hb he
 go_enter Tryd.func100,Tryd.ntmps100
 go_wp2;go_ret;exact ⟨ae,HE.out⟩
theorem FirstJ.tells(sa:Nat->Addr)(wb:World)(bx N:Nat)(hb:wb.heap.size<=bx):Tells sa wb false N 100 #[.pointer (some ⟨bx,0,none⟩)] (FirstJ sa bx) where
 enter:=enters_of Tryd.func100 (by kernel_rfl) rfl
 keep:=fun t A B h hb=>by
  rcases h with ⟨e,h⟩ | ⟨u,p,c,e,h,k⟩
  ·exact .inl ⟨e,h.below hb h.lt⟩
  ·exact .inr ⟨u,p,c,e,h.below hb h.lt,k.keep hb⟩
 step:=fun t u path code W hg _ hJ _ he=>by
  have e:t=[]:=hg.resolve_left (by decide);subst e
  rcases hJ with ⟨_,h⟩ | ⟨_,_,_,e,_⟩
  ·exact eh sa wb bx hb u path code W h he
  ·cases e
theorem ViewAt.below{w w':World}{v:Vw}{lv:Value}(h:ViewAt w v lv)(hb:Below w.heap.size w w'):ViewAt w' v lv:=⟨h.1.below hb,h.2⟩
theorem cu{Z:ai}{w:World}{ao:Option Addr}{n cap:Nat}{L:List Cl}(h:HeldE cellE Z w (.slice ao n cap) L)(m:Nat)(hm:m<=L.length):HeldE cellE Z w (.slice ao m cap) (L.take m):=by
 obtain ⟨a',cap',e,fO,hcm,ix,_⟩:=id h
 cases e
 have:=h.part 0 m (Nat.zero_le _) hm ao cap (fun h=>⟨h,(ix h).2⟩) (fun b off e _=>by simp [e]) (fun a e=>by rw [e];simp) (by omega) hcm
 simpa using this
def aV(Ls:List Ln):Nat->Nat
 | 0=>0
 | k+1=>aV Ls k+(Ls.getD k zl).1.length
theorem cR(Ls:List Ln){a b:Nat}(h:a<=b):aV Ls a<=aV Ls b:=by
 induction h with
 | refl=>exact Nat.le_refl _
 | step h ih=>exact Nat.le_trans ih (Nat.le_add_right _ _)
def aL(L:List Cl)(g:Bool):Nat:=if g=true then (if (L.getD (L.length - 1) zc).1=0 then L.length - 1 else L.length) else dO L
theorem dz(Z:ai)(ao:Option Addr)(n cap:Nat)(L:List Cl)(g:Bool)(w:World)(hv:HeldE cellE Z w (.slice ao n cap) L):Calls Tryd.prog 47 #[.slice ao n cap,.bool g] w (fun e w'=>e=.returned (.slice ao (aL L g) cap)/\w=w'):=by
 obtain ⟨fJ,fO,hc⟩:=aK hv;have hl:=hv.max;subst fJ;have HC:=aa hc;clear hc hv
 go_enter Tryd.func47,Tryd.ntmps47
 go_wp2
 go_loopw [5] (fun i wr=>∃ k:Nat,k<=L.length/\i=.int .i64 k/\Hid ((g=false->aH L k=dO L)/\(g=true->k=L.length))/\w=wr) (fun i _=>(intOf i).toNat)
 case atStart=>exact ⟨L.length,Nat.le_refl _,rfl,aa ⟨fun _=>rfl,fun _=>rfl⟩,rfl⟩
 case round =>
  obtain ⟨k,hk,rfl,HT,rfl⟩:=hrel
  cases k with
  |zero =>
   have HE:=aa (show aL L g=0 from by
    unfold aL
    cases g with
    |true =>
     have h0:=HT.out.2 rfl;rw [if_pos rfl]
     split <;> omega
    |false=>rw [if_neg (by decide),<-HT.out.1 rfl];rfl)
   go_wp2;go_ret;exact ⟨by rw [HE.out];rfl,rfl⟩
  |succ k =>
   obtain ⟨b,off,tv,rfl,hb,_,c0,c1,hh⟩:=HC.out k (by omega);have hw:IntKind.i64.wrap (((k+1:Nat):Int) - 1)=(k:Int):=by rw [IntKind.wrap_i64];omega
   have gK:(0:Int)<((k+1:Nat):Int):=by omega
   have hlt:k<L.length:=by omega
   have iJ:k<cap:=by omega
   have hkc1:k+1<=cap:=by omega
   have hkc2:k<=cap:=by omega
   obtain ⟨K,hK⟩:=ab ((L.getD k zc).1);rw [<-hK] at c0;have HK:=aa hK;clear c1 hh hb hK
   by_cases h0:K=0
   ·subst h0
    cases g with
    |true =>
     have HE:=aa (show aL L true=k from by
      have h1:=HT.out.2 rfl;unfold aL;rw [if_pos rfl,show L.length - 1=k by omega,if_pos HK.out.symm])
     go_wp2;go_ret;exact ⟨by rw [HE.out];go_num,rfl⟩
    |false =>
     have HT2:=aa (show (false=false->aH L k=dO L)/\(false=true->k=L.length) from ⟨fun _=>by
      have h1:=HT.out.1 rfl;unfold aH at h1;rw [if_pos HK.out.symm] at h1;exact h1,fun e=>absurd e (by decide)⟩)
     go_wp2
     go_roundw
     case rel=>exact ⟨k,by omega,by go_num,aa ⟨fun _=>HT2.out.1 rfl,fun e=>absurd e (by decide)⟩,trivial⟩
     case measure=>simp [intOf] <;> omega
   ·have fU:(K == 0)=false:=by rw [beq_eq_false_iff_ne];exact h0
    have HE:=aa (show aL L g=k+1 from by
     unfold aL
     cases g with
     |true =>
      have h1:=HT.out.2 rfl;rw [if_pos rfl,show L.length - 1=k by omega,if_neg (fun e=>h0 (HK.out.trans e))];omega
     |false =>
      have h1:=HT.out.1 rfl;unfold aH at h1;rw [if_neg (fun e=>h0 (HK.out.trans e))] at h1;rw [if_neg (by decide),h1])
    clear h0;go_wp2;go_ret;exact ⟨by rw [HE.out];go_num,rfl⟩
end Go.Proofs.YtechjomepdahiaaDoor
