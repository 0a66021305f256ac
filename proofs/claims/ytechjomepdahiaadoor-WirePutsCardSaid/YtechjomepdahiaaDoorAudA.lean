import Derived.Test.YtechjomepdahiaaDoorZ0
import Derived.Test.YtechjomepdahiaaDoorMg5
set_option maxRecDepth 100000
set_option linter.unusedVariables false
set_option linter.unusedSimpArgs false
set_option maxHeartbeats 3000000
namespace Go.Proofs.YtechjomepdahiaaDoor
open Go.RowKit Go.ChangeShapes Go.WideShapes
structure Five (w:World) (sa:Nat->Addr):Prop where
 cell:∀ k,k ∈ [1,2,3,4,7]->w.cell? ⟨F.glob k,0,none⟩=some (.iface 186 (.pointer (some (sa k))))
theorem Five.below{w w':World}{sa:Nat->Addr}(h:Five w sa)(hb:Below w.heap.size w w'):Five w' sa where
 cell k hk:=by
  have:=h.cell k hk;exact (hb.cell (p:=⟨F.glob k,0,none⟩) (World.block_lt_of_cell? _ _ this)).trans this
theorem l6{w:World}{sa:Nat->Addr}(h:F.Sents w sa):Five w sa:=⟨fun k hk=>h.cell k (by simp at hk;omega)⟩
theorem fG(n:Int)(w:World):Calls Tryd.prog 106 #[.int .i64 n] w (fun e w'=>e=.returned (.bool (aB n))/\w=w'):=by
 by_cases h1:1<=n
 ·have d1:decide (1<=n)=true:=decide_eq_true h1
  by_cases h2:n<=1024
  ·have d2:decide (n<=1024)=true:=decide_eq_true h2;rw [show aB n=true from by unfold aB;rw [d1,d2];rfl]
   go_enter Tryd.func106,Tryd.ntmps106
   go_wp2;go_ret;exact ⟨ae,rfl⟩
  ·have d2:decide (n<=1024)=false:=decide_eq_false h2;rw [show aB n=false from by unfold aB;rw [d1,d2];rfl]
   go_enter Tryd.func106,Tryd.ntmps106
   go_wp2;go_ret;exact ⟨ae,rfl⟩
 ·have d1:decide (1<=n)=false:=decide_eq_false h1;rw [show aB n=false from by unfold aB;rw [d1];rfl]
  go_enter Tryd.func106,Tryd.ntmps106
  go_wp2;go_ret;exact ⟨ae,rfl⟩
theorem iG(sa:Nat->Addr)(Z:an)(v:Value)(L:List Cl)(k:Nat)(w:World)(hs:Five w sa)(hv:HeldE cellE Z w v L)(hk:k<L.length)(hl:L.length<=9223372036854775807):Calls Tryd.prog 114 #[v,.int .i64 k] w (Gives w (fH sa (ba L k))):=by
 obtain ⟨ao,ca,rfl⟩:=hv.len;have g1:=hs.cell 1 (by decide);have g4:=hs.cell 4 (by decide);simp only [F.glob] at g1 g4;have hcell:=(aW hv).2.2;have m8:=(aW hv).2.1;obtain ⟨b,off,tv,e,hb,_,hc0,hc1,uB⟩:=hcell k hk;subst e;have td:=aa (show k+1<L.length->∃ b1 off1 tv1,some (⟨b,off,none⟩ : Addr)=some ⟨b1,off1,none⟩/\w.cell? ⟨b1,off1+(k+1) * 2,none⟩=some (.int .i64 (L.getD (k+1) zc).1) from fun h=>by
  obtain ⟨b1,off1,tv1,e1,_,_,h0,_⟩:=hcell (k+1) h;exact ⟨b1,off1,tv1,e1,h0⟩)
 have o8:=aa (show 0<k->∃ b1 off1 tv1,some (⟨b,off,none⟩ : Addr)=some ⟨b1,off1,none⟩/\w.cell? ⟨b1,off1+(k - 1) * 2,none⟩=some (.int .i64 (L.getD (k - 1) zc).1) from fun h=>by
  obtain ⟨b1,off1,tv1,e1,_,_,h0,_⟩:=hcell (k - 1) (by omega);exact ⟨b1,off1,tv1,e1,h0⟩)
 have hwc:=jx L k;obtain ⟨K,hK⟩:=ab ((L.getD k zc).1);obtain ⟨T,hT⟩:=ab ((L.getD k zc).2);have pB:L.getD k zc=(K,T):=by rw [hK,hT]
 rw [<-hK] at hc0 hwc;rw [<-hT] at uB;rw [pB] at hwc;have HR:=aa (fun (w':World) (h:Below w.heap.size w w')=>jE K tv T w' ((uB.ints).below h) uB.max);obtain ⟨xo,xc,ext⟩:=uB.len;obtain ⟨nt,uS⟩:=ab (T.length);rw [<-uS] at ext;subst ext;obtain ⟨W1,hW1⟩:=ab (w.alloc (.cells [Value.int .i64 K,.slice xo nt xc].toArray 85));have hs1:Has W1 w.heap.size [Value.int .i64 K,.slice xo nt xc] 85:=by rw [hW1];exact Has.new w _ _
 have hb1:Below w.heap.size w W1:=by rw [hW1];exact l7 _ _
 have oI:w.alloc (.cells #[Value.int .i64 K,.slice xo nt xc] 85)=W1:=hW1.symm;have HB:=aa hb1;have HS:=aa hs1;have G1:=aa (fun (w':World) (h:Below w.heap.size w w')=>show w'.cell? ⟨2,0,none⟩=some (.iface 186 (.pointer (some (sa 1)))) from (hs.below h).cell 1 (by decide));have G4:=aa (fun (w':World) (h:Below w.heap.size w w')=>show w'.cell? ⟨0,0,none⟩=some (.iface 186 (.pointer (some (sa 4)))) from (hs.below h).cell 4 (by decide));obtain ⟨n,hn⟩:=ab (L.length);rw [<-hn] at hk hl td m8 ⊢;have hb0:=hb;have tN:k<ca:=by omega
 have ry:(k:Int)<(n:Int):=by omega
 have pn:IntKind.i64.wrap ((k:Int)+1)=(k:Int)+1:=by rw [IntKind.wrap_i64];omega
 have rs:IntKind.i64.wrap ((k:Int) - 1)=(k:Int) - 1:=by rw [IntKind.wrap_i64];omega
 have tI:∀ j:Nat,aG L (j:Int)=(L.getD j zc).1:=fun j=>by unfold aG;rw [if_neg (by omega)];rfl
 have hkap:aG L ((k:Int)+1)=(L.getD (k+1) zc).1:=by rw [show (k:Int)+1=((k+1:Nat):Int) by omega];exact tI _
 have wg:=aa (show 0<k->aG L ((k:Int) - 1)=(L.getD (k - 1) zc).1 from fun h=>by rw [show (k:Int) - 1=((k - 1:Nat):Int) by omega];exact tI _);have HK0:=aa (show k=0->aG L ((k:Int) - 1)=0 from fun h=>by subst h;rfl);have HKE:=aa (show ¬ k+1<n->(L.getD (k+1) zc).1=0 from fun h=>by rw [gh L zc (k+1) (by omega)]);rw [hkap] at hwc;clear hs hv hcell g1 g4 hK hT pB uS hW1 hs1 hb1 tI hkap uB hn hb;have hgo:∀ Q:Ending->World->Prop,(∀ w2,Below w.heap.size w w2->w2.cell? ⟨w.heap.size,0,none⟩=some (.int .i64 K)->w2.cell? ⟨b,off+k * 2,none⟩=some (.int .i64 K)->True)->True:=fun _ _=>trivial
 clear hgo;have mG:=aa oI;clear oI
 rcases hwc with ⟨hr,hy⟩ | ⟨hr,h2,h3,hy⟩ | ⟨hr,h2,h3,hy⟩ | ⟨hr,h2,h3,hy⟩ | ⟨hr,h2,h3,hy⟩ | ⟨hr,h2,h3,hy⟩
 ·rw [hy];rw [hr] at HR;clear hr hy
  go_enter Tryd.func114,Tryd.ntmps114
  go_upto_region 2 with (fail)
  rw [mG.out];have q0:=HS.out.cell 0 _ rfl;have q1:=HS.out.cell 1 _ rfl
  go_wp2_with fail
  refine (HR.out _ HB.out).mono ?_;rintro e w2 ⟨rfl,b2⟩;clear q0 q1;have B2:=aa (HB.out.trans (b2.mono HB.out.size));have g4:=G4.out _ B2.out;clear b2;go_wp2;go_ret;exact ⟨ae,B2.out⟩
 ·rw [hy];rw [hr] at HR;subst h2;have H3:=aa h3;clear hr hy h3
  go_enter Tryd.func114,Tryd.ntmps114
  go_upto_region 2 with (fail)
  rw [mG.out];have q0:=HS.out.cell 0 _ rfl;have q1:=HS.out.cell 1 _ rfl
  go_wp2_with fail
  refine (HR.out _ HB.out).mono ?_;rintro e w2 ⟨rfl,b2⟩;clear q0 q1;have B2:=aa (HB.out.trans (b2.mono HB.out.size));have g1:=G1.out _ B2.out;have k0:=(HS.out.below b2 HS.out.lt).cell 0 _ rfl;clear b2
  by_cases hq:k+1<n
  ·have d1:((k:Int)+1 == n)=false:=by rw [beq_eq_false_iff_ne];omega
   obtain ⟨b1,off1,tv1,e1,h0⟩:=td.out hq
   cases e1
   have c1:=(B2.out.cell (p:=⟨b,off+(k+1) * 2,none⟩) hb0).trans h0;obtain ⟨K1,vf⟩:=ab ((L.getD (k+1) zc).1);rw [<-vf] at c1 H3;have d2:(K1 != 3)=true:=by simp [H3.out]
   have hqi:(k:Int)+1<(n:Int):=by omega
   clear h0 vf;go_wp2;go_ret;exact ⟨ae,B2.out⟩
  ·have d1:((k:Int)+1 == n)=true:=by rw [beq_iff_eq];omega
   go_wp2;go_ret;exact ⟨ae,B2.out⟩
 ·rw [hy];rw [hr] at HR;subst h2;have hq:k+1<n:=Decidable.byContradiction fun h=>by rw [HKE.out h] at h3;exact absurd h3 (by decide)
  have H3:=aa h3;clear hr hy h3
  go_enter Tryd.func114,Tryd.ntmps114
  go_upto_region 2 with (fail)
  rw [mG.out];have q0:=HS.out.cell 0 _ rfl;have q1:=HS.out.cell 1 _ rfl
  go_wp2_with fail
  refine (HR.out _ HB.out).mono ?_;rintro e w2 ⟨rfl,b2⟩;clear q0 q1;have B2:=aa (HB.out.trans (b2.mono HB.out.size));have k0:=(HS.out.below b2 HS.out.lt).cell 0 _ rfl;clear b2;have d1:((k:Int)+1 == n)=false:=by rw [beq_eq_false_iff_ne];omega
  obtain ⟨b1,off1,tv1,e1,h0⟩:=td.out hq
  cases e1
  have c1:=(B2.out.cell (p:=⟨b,off+(k+1) * 2,none⟩) hb0).trans h0;rw [H3.out] at c1;have hqi:(k:Int)+1<(n:Int):=by omega
  clear h0;go_wp2;go_ret;exact ⟨ae,B2.out⟩
 ·rw [hy];rw [hr] at HR;subst h2;have H3:=aa h3;clear hr hy h3
  go_enter Tryd.func114,Tryd.ntmps114
  go_upto_region 2 with (fail)
  rw [mG.out];have q0:=HS.out.cell 0 _ rfl;have q1:=HS.out.cell 1 _ rfl
  go_wp2_with fail
  refine (HR.out _ HB.out).mono ?_;rintro e w2 ⟨rfl,b2⟩;clear q0 q1;have B2:=aa (HB.out.trans (b2.mono HB.out.size));have g1:=G1.out _ B2.out;have k0:=(HS.out.below b2 HS.out.lt).cell 0 _ rfl;clear b2
  by_cases hq:0<k
  ·have d1:((k:Int) == 0)=false:=by rw [beq_eq_false_iff_ne];omega
   obtain ⟨b1,off1,tv1,e1,h0⟩:=o8.out hq
   cases e1
   have c1:=(B2.out.cell (p:=⟨b,off+(k - 1) * 2,none⟩) hb0).trans h0;rw [wg.out hq] at H3;obtain ⟨K1,vf⟩:=ab ((L.getD (k - 1) zc).1);rw [<-vf] at c1 H3;have d2:(K1 != 2)=true:=by simp [H3.out]
   obtain ⟨j,hj⟩:=ab (k - 1);rw [<-hj] at c1;have hkj:(k:Int) - 1=(j:Int):=by omega
   rw [hkj] at rs;have hjn:(j:Int)<(n:Int):=by omega
   clear h0 vf hj o8 wg;go_wp2;go_ret;exact ⟨ae,B2.out⟩
  ·have d1:((k:Int) == 0)=true:=by rw [beq_iff_eq];omega
   go_wp2;go_ret;exact ⟨ae,B2.out⟩
 ·rw [hy];rw [hr] at HR;subst h2;have hq:0<k:=Decidable.byContradiction fun h=>by rw [HK0.out (by omega)] at h3;exact absurd h3 (by decide)
  rw [wg.out hq] at h3;have H3:=aa h3;clear hr hy h3
  go_enter Tryd.func114,Tryd.ntmps114
  go_upto_region 2 with (fail)
  rw [mG.out];have q0:=HS.out.cell 0 _ rfl;have q1:=HS.out.cell 1 _ rfl
  go_wp2_with fail
  refine (HR.out _ HB.out).mono ?_;rintro e w2 ⟨rfl,b2⟩;clear q0 q1;have B2:=aa (HB.out.trans (b2.mono HB.out.size));have k0:=(HS.out.below b2 HS.out.lt).cell 0 _ rfl;clear b2;have d1:((k:Int) == 0)=false:=by rw [beq_eq_false_iff_ne];omega
  obtain ⟨b1,off1,tv1,e1,h0⟩:=o8.out hq
  cases e1
  have c1:=(B2.out.cell (p:=⟨b,off+(k - 1) * 2,none⟩) hb0).trans h0;rw [H3.out] at c1;obtain ⟨j,hj⟩:=ab (k - 1);rw [<-hj] at c1;have hkj:(k:Int) - 1=(j:Int):=by omega
  rw [hkj] at rs;have hjn:(j:Int)<(n:Int):=by omega
  clear h0 hj o8 wg;go_wp2;go_ret;exact ⟨ae,B2.out⟩
 ·rw [hy];rw [hr] at HR;have d2:(K == 2)=false:=by rw [beq_eq_false_iff_ne];exact h2
  have d3:(K == 3)=false:=by rw [beq_eq_false_iff_ne];exact h3
  clear hr hy h2 h3
  go_enter Tryd.func114,Tryd.ntmps114
  go_upto_region 2 with (fail)
  rw [mG.out];have q0:=HS.out.cell 0 _ rfl;have q1:=HS.out.cell 1 _ rfl
  go_wp2_with fail
  refine (HR.out _ HB.out).mono ?_;rintro e w2 ⟨rfl,b2⟩;clear q0 q1;have B2:=aa (HB.out.trans (b2.mono HB.out.size));have k0:=(HS.out.below b2 HS.out.lt).cell 0 _ rfl;clear b2;go_wp2;go_ret;exact ⟨ae,B2.out⟩
end Go.Proofs.YtechjomepdahiaaDoor
