/- Fractions as the Go text of package frac -/
import Derived.Test.YtollloafckcogaaGreatDoorKFFA
namespace Go.Proofs.YtollloafckcogaaGreatDoor
open Go.RowKit
set_option maxHeartbeats 4000000
set_option maxRecDepth 100000
def FracAt (w:World) (v:Value) (f:Rat):Prop :=
 (f.num.natAbs < 18446744073709551616∧f.den < 18446744073709551616∧v=.agg #[.bool (decide (f.num<0)),.int .u64 (f.num.natAbs:Int),.int .u64 ((f.den:Int)-1),.pointer none]) ∨
 ((18446744073709551616≤f.num.natAbs∨18446744073709551616≤f.den)∧∃ b v1 v2,v=.agg #[.bool (decide (f.num<0)),.int .u64 0,.int .u64 0,.pointer (some ⟨b,0,none⟩)]∧w.cell? ⟨b,0,none⟩=some v1∧w.cell? ⟨b,1,none⟩=some v2∧Sl .u64 w v1 (wd 18446744073709551616 f.num.natAbs)∧Sl .u64 w v2 (wd 18446744073709551616 f.den))
theorem FracAt.but {w w':World} {v:Value} {f:Rat} (h:FracAt w v f) (hb:But [] w w'):FracAt w' v f:=by
 rcases h with h | ⟨h1,b,v1,v2,h2,h3,h4,h5,h6⟩
 ·exact .inl h
 ·exact .inr ⟨h1,b,v1,v2,h2,hb.cell_some h3 (by simp),hb.cell_some h4 (by simp),h5.but_nil hb,h6.but_nil hb⟩
theorem FracAt.over {w W:World} {v:Value} {f:Rat} (h:FracAt w v f) {g:Nat} {s:Bool} (c0:w.cell? ⟨g,0,none⟩=some (.bool s)) (hb:But [g] w W):FracAt W v f:=by
 rcases h with h1 | ⟨h1,b,v1,v2,h2,h3,h4,h5,h6⟩
 ·exact .inl h1
 ·have hbg:b≠g:=by
   rintro rfl
   obtain ⟨a,cap,rfl,-⟩:=h5
   rw [c0] at h3
   simp at h3
  exact .inr ⟨h1,b,v1,v2,h2,hb.cell_some h3 (by simpa using hbg),hb.cell_some h4 (by simpa using hbg),h5.over hb c0 (by simp),h6.over hb c0 (by simp)⟩
def Len (f:Rat) (n:Nat):Prop:=(wd 18446744073709551616 f.num.natAbs).length≤n∧(wd 18446744073709551616 f.den).length≤n
theorem den_pos (f:Rat):0<f.den:=Nat.pos_of_ne_zero f.den_nz
theorem numbers_any (v:Value) (f:Rat) (w:World) (hf:FracAt w v f) :
  Calls Tryz.prog 36 #[v] w fun e w'=>∃ v1 v2,e=.returned (.tuple #[v1,v2])∧Sl .u64 w' v1 (wd 18446744073709551616 f.num.natAbs)∧Sl .u64 w' v2 (wd 18446744073709551616 f.den)∧But [] w w':=by
 rcases hf with ⟨hp,hq,rfl⟩ | ⟨-,b,v1,v2,rfl,hc0,hc1,hs1,hs2⟩
 ·have hq0:=den_pos f
  generalize decide (f.num<0)=s
  generalize f.num.natAbs=p at *
  generalize f.den=q at *
  go_enter Tryz.func36,Tryz.ntmps36
  go_wp2
  obtain ⟨W,hW⟩:∃ W,W=w.alloc (.cells #[.bool s,.int .u64 (p:Int),.int .u64 ((q:Int)-1),.pointer none] 27):=⟨_,rfl⟩
  have c0:W.cell? ⟨w.heap.size,0,none⟩=some (.bool s):=by rw [hW];simp
  have c1:W.cell? ⟨w.heap.size,1,none⟩=some (.int .u64 (p:Int)):=by rw [hW];simp
  have c2:W.cell? ⟨w.heap.size,2,none⟩=some (.int .u64 ((q:Int)-1)):=by rw [hW];simp
  have c3:W.cell? ⟨w.heap.size,3,none⟩=some (.pointer none):=by rw [hW];simp
  have hB:But [] w W:=by rw [hW];exact (But.refl _ _).alloc _
  rw [← hW]
  clear hW
  generalize w.heap.size=g at *
  go_region_held (fun w'=>w'.cell? ⟨g,0,none⟩=some (.bool s)∧w'.cell? ⟨g,1,none⟩=some (.int .u64 (p:Int))∧w'.cell? ⟨g,2,none⟩=some (.int .u64 ((q:Int)-1))∧w'.cell? ⟨g,3,none⟩=some (.pointer none)) (go_keep) (first
   | (go_at_call_of 79 (Value.int IntKind.u64 (p:Int));refine (natOf_any p hp _).mono ?_;rintro e w1 ⟨v1,rfl,hv1,hb1,-⟩;have B1:But [] W w1:=(by first | exact hb1 | exact (But.refl _ _).drew.trans' hb1);have k0:=B1.cell_some c0 (by simp);have k1:=B1.cell_some c1 (by simp);have k2:=B1.cell_some c2 (by simp);have k3:=B1.cell_some c3 (by simp))
   | (go_at_call 80;refine (under_any s p q hq hq0 _).mono ?_;rintro e w2 ⟨rfl,hb2⟩;have B2:But [] W w2:=B1.trans' hb2;have l0:=B2.cell_some c0 (by simp);have l1:=B2.cell_some c1 (by simp);have l2:=B2.cell_some c2 (by simp);have l3:=B2.cell_some c3 (by simp))
   | (go_at_call_of 79 (Value.int IntKind.u64 (q:Int));refine (natOf_any q hq _).mono ?_;rintro e w3 ⟨v3,rfl,hv3,hb3,-⟩;have B3:But [] W w3:=B2.trans' hb3;have m0:=B3.cell_some c0 (by simp);have m1:=B3.cell_some c1 (by simp);have m2:=B3.cell_some c2 (by simp);have m3:=B3.cell_some c3 (by simp)))
  all_goals go_wp2
  all_goals go_ret2
  all_goals exact ⟨v1,v3,rfl,(hv1.but_nil hb2).but_nil hb3,hv3,hB.trans' B3⟩
 ·have hbl:b<w.heap.size:=lt_of_cell hc0
  have HS:=hide (And.intro hs1 hs2)
  clear hs1 hs2
  generalize decide (f.num<0)=s
  go_enter Tryz.func36,Tryz.ntmps36
  go_wp2
  obtain ⟨W,hW⟩:∃ W,W=w.alloc (.cells #[.bool s,.int .u64 0,.int .u64 0,.pointer (some ⟨b,0,none⟩)] 27):=⟨_,rfl⟩
  have HB:Hid (But [] w W):=by show But _ _ _;rw [hW];exact (But.refl _ _).alloc _
  have c3:W.cell? ⟨w.heap.size,3,none⟩=some (.pointer (some ⟨b,0,none⟩)):=by rw [hW];simp
  have d0:=(unhide HB).cell_some hc0 (by simp)
  have d1:=(unhide HB).cell_some hc1 (by simp)
  rw [← hW]
  clear hW hc0 hc1
  generalize w.heap.size=g at *
  go_quiet (fail)
  go_wp2
  go_ret2
  exact ⟨v1,v2,rfl,(unhide HS).1.but_nil ((unhide HB).drewN nq),(unhide HS).2.but_nil ((unhide HB).drewN nq),(unhide HB).drewN nq⟩
theorem sgn_neg (s:Bool) (m:Nat):decide (sgn s m<0)=(s && decide (m≠0)):=by
 cases s
 ·have h1:¬ ((m:Int)<0):=by omega
  simp [sgn,h1]
 ·by_cases h0:m=0
  ·subst h0;rfl
  ·have h1:-(m:Int)<0:=by omega
   have h2:0<m:=by omega
   simp [sgn,h0,h2]
theorem ofLowered_any (s:Bool) (v1 v2:Value) (f:Rat) (w:World) (h1:Sl .u64 w v1 (wd 18446744073709551616 f.num.natAbs)) (h2:Sl .u64 w v2 (wd 18446744073709551616 f.den)) (hs:f.num=sgn s f.num.natAbs) (hl1:(wd 18446744073709551616 f.num.natAbs).length<2147483648) (hl2:(wd 18446744073709551616 f.den).length<2147483648) :
  Calls Tryz.prog 109 #[.bool s,v1,v2] w fun e w'=>∃ v,e=.returned v∧FracAt w' v f∧But [] w w':=by
 have hsg:decide (f.num<0)=(s && decide (f.num.natAbs≠0)):=by rw [hs,sgn_abs];exact sgn_neg _ _
 have hq0:=den_pos f
 have hle0:w.heap.size≤w.heap.size:=Nat.le_refl _
 obtain ⟨W0,hW0⟩:∃ W0,W0=w.alloc (.cells #[.bool false,.int .u64 0,.int .u64 0,.pointer none] 27):=⟨_,rfl⟩
 have hB0:But [] w W0:=by rw [hW0];exact (But.refl _ _).alloc _
 have c0:W0.cell? ⟨w.heap.size,0,none⟩=some (.bool false):=by rw [hW0];simp
 have c1:W0.cell? ⟨w.heap.size,1,none⟩=some (.int .u64 0):=by rw [hW0];simp
 have c2:W0.cell? ⟨w.heap.size,2,none⟩=some (.int .u64 0):=by rw [hW0];simp
 have c3:W0.cell? ⟨w.heap.size,3,none⟩=some (.pointer none):=by rw [hW0];simp
 have fz:∀ j,W0.frozen? ⟨w.heap.size,j,none⟩=false:=by intro j;rw [hW0];simp
 have hgs:w.heap.size<W0.heap.size:=by rw [hW0];simp
 have h1':=h1.but_nil hB0
 have h2':=h2.but_nil hB0
 have HW0:=hide hW0
 have HB0:=hide hB0
 clear hW0 hB0 hle0
 by_cases hb:f.num.natAbs < 18446744073709551616∧f.den < 18446744073709551616
 ·obtain ⟨hp,hq⟩:=hb
  have HW1:=hide (natWord_any v1 f.num.natAbs hp W0 h1')
  have HW2:=hide (natWord_any v2 f.den hq W0 h2')
  have HO:=hide (ofWords_any s f.num.natAbs f.den hp hq hq0 (decide (f.num<0)) hsg W0)
  have FIN:Hid (∀ W,FracAt W (.agg #[.bool (decide (f.num<0)),.int .u64 (f.num.natAbs:Int),.int .u64 ((f.den:Int)-1),.pointer none]) f):=fun W=>.inl ⟨hp,hq,rfl⟩
  obtain ⟨a1,d1,rfl,-,-⟩:=h1
  obtain ⟨a2,d2,rfl,-,-⟩:=h2
  clear hs hsg h1' h2'
  generalize (wd 18446744073709551616 f.num.natAbs).length=n1 at *
  generalize (wd 18446744073709551616 f.den).length=n2 at *
  generalize decide (f.num<0)=r at *
  generalize f.num.natAbs=p at *
  generalize hqq:f.den=q at *
  clear hqq
  go_enter Tryz.func109,Tryz.ntmps109
  go_wp2_with fail
  rw [← unhide HW0]
  obtain ⟨g,hg⟩:∃ g,g=w.heap.size:=⟨_,rfl⟩
  rw [← hg] at c0 c1 c2 c3 fz hgs
  rw [← hg]
  have HG:Hid (w.heap.size≤g):=Nat.le_of_eq hg.symm
  clear hg HW0
  refine (unhide HW1).mono ?_
  rintro e w1 ⟨rfl,hw⟩
  obtain rfl:=hw.symm
  clear hw
  go_wp2_with fail
  refine (unhide HW2).mono ?_
  rintro e w1 ⟨rfl,hw⟩
  obtain rfl:=hw.symm
  clear hw
  go_wp2_with fail
  refine (unhide HO).mono ?_
  rintro e w1 ⟨rfl,hb1⟩
  have k0:=hb1.cell_some c0 (by simp)
  have k1:=hb1.cell_some c1 (by simp)
  have k2:=hb1.cell_some c2 (by simp)
  have k3:=hb1.cell_some c3 (by simp)
  have kf:∀ j,w1.frozen? ⟨g,j,none⟩=false:=fun j=>(hb1.frozen (p:=⟨g,j,none⟩) hgs (by simp)).trans (fz j)
  have HB1:=hide ((unhide HB0).trans' hb1)
  clear hb1 c0 c1 c2 c3 fz
  go_wp2
  refine bodyPost_ret (v:=.agg #[.bool r,.int .u64 (p:Int),.int .u64 ((q:Int)-1),.pointer none]) (by simp [results,Tryz.results109,go_sem,k0,k1,k2,k3]) rfl ⟨_,rfl,unhide FIN _,?_⟩
  exact ((((unhide HB1).setCell (.inr (unhide HG)) _).setCell (.inr (unhide HG)) _).setCell (.inr (unhide HG)) _).setCell (.inr (unhide HG)) _
 ·have hbig:18446744073709551616≤f.num.natAbs∨18446744073709551616≤f.den:=by omega
  have hr:decide (f.num<0)=s:=by
   rw [hsg]
   have hn0:f.num.natAbs≠0:=by
    intro e0
    have e1:=f.reduced
    rw [e0,Nat.coprime_zero_left] at e1
    omega
   simp [hn0]
  have H1:=hide h1
  have H2:=hide h2
  have HWS:Hid ((f.num.natAbs < 18446744073709551616∧Calls Tryz.prog 81 #[v1] W0 (fun e w'=>e=.returned (.tuple #[.int .u64 (f.num.natAbs:Int),.bool true])∧w'=W0)∧Calls Tryz.prog 81 #[v2] W0 (fun e w'=>e=.returned (.tuple #[.int .u64 0,.bool false])∧w'=W0))∨(∃ (x:Nat) (t:Bool),Calls Tryz.prog 81 #[v1] W0 (fun e w'=>e=.returned (.tuple #[.int .u64 0,.bool false])∧w'=W0)∧Calls Tryz.prog 81 #[v2] W0 (fun e w'=>e=.returned (.tuple #[.int .u64 (x:Int),.bool t])∧w'=W0))):=by
   rcases Nat.lt_or_ge f.num.natAbs 18446744073709551616 with hp | hp
   ·exact .inl ⟨hp,natWord_any v1 _ hp W0 h1',natWord_long v2 _ (by omega) W0 h2' hl2⟩
   ·rcases Nat.lt_or_ge f.den 18446744073709551616 with hq | hq
    ·exact .inr ⟨f.den,true,natWord_long v1 _ hp W0 h1' hl1,natWord_any v2 _ hq W0 h2'⟩
    ·exact .inr ⟨0,false,natWord_long v1 _ hp W0 h1' hl1,natWord_long v2 _ hq W0 h2' hl2⟩
  obtain ⟨a1,d1,rfl,-,-⟩:=h1
  obtain ⟨a2,d2,rfl,-,-⟩:=h2
  have FIN:Hid (∀ W b v1 v2,W.cell? ⟨b,0,none⟩=some v1→W.cell? ⟨b,1,none⟩=some v2→Sl .u64 W v1 (wd 18446744073709551616 f.num.natAbs)→Sl .u64 W v2 (wd 18446744073709551616 f.den)→FracAt W (.agg #[.bool s,.int .u64 0,.int .u64 0,.pointer (some ⟨b,0,none⟩)]) f):=fun W b v1 v2 e1 e2 e3 e4=>.inr ⟨hbig,b,v1,v2,by rw [hr],e1,e2,e3,e4⟩
  clear hs hsg h1' h2' hr hb hbig
  generalize (wd 18446744073709551616 f.num.natAbs).length=n1 at *
  generalize (wd 18446744073709551616 f.den).length=n2 at *
  rcases unhide HWS with ⟨-,w1c,w2c⟩ | ⟨x,t,w1c,w2c⟩
  all_goals
   have HW1:=hide w1c
   have HW2:=hide w2c
   clear w1c w2c HWS
   go_enter Tryz.func109,Tryz.ntmps109
   go_wp2_with fail
   rw [← unhide HW0]
   obtain ⟨g,hg⟩:∃ g,g=w.heap.size:=⟨_,rfl⟩
   rw [← hg] at c0 c1 c2 c3 fz hgs
   rw [← hg]
   have HG:Hid (w.heap.size≤g):=Nat.le_of_eq hg.symm
   clear hg HW0
   refine (unhide HW1).mono ?_
   rintro e w1 ⟨rfl,hw⟩
   obtain rfl:=hw.symm
   clear hw
   go_wp2_with fail
   refine (unhide HW2).mono ?_
   rintro e w1 ⟨rfl,hw⟩
   obtain rfl:=hw.symm
   clear hw
   go_wp2
   have hBf:=(((((unhide HB0).setCell (p:=⟨g,0,none⟩) (.inr (unhide HG)) (.bool s)).setCell (p:=⟨g,1,none⟩) (.inr (unhide HG)) (.int .u64 0)).setCell (p:=⟨g,2,none⟩) (.inr (unhide HG)) (.int .u64 0)).setCell (p:=⟨g,3,none⟩) (.inr (unhide HG)) (.pointer (some ⟨W0.heap.size,0,none⟩))).alloc (.cells #[.slice a1 n1 d1,.slice a2 n2 d2] 130)
   refine bodyPost_ret (v:=.agg #[.bool s,.int .u64 0,.int .u64 0,.pointer (some ⟨W0.heap.size,0,none⟩)]) (by simp [results,Tryz.results109,go_sem,c0,c1,c2,c3,hgs]) rfl ⟨_,rfl,unhide FIN _ W0.heap.size (.slice a1 n1 d1) (.slice a2 n2 d2) ?_ ?_ ((unhide H1).but_nil hBf) ((unhide H2).but_nil hBf),hBf⟩
   ·have:=World.cell?_alloc_new ((((W0.setCell ⟨g,0,none⟩ (.bool s)).setCell ⟨g,1,none⟩ (.int .u64 0)).setCell ⟨g,2,none⟩ (.int .u64 0)).setCell ⟨g,3,none⟩ (.pointer (some ⟨W0.heap.size,0,none⟩))) #[.slice a1 n1 d1,.slice a2 n2 d2] 130 0
    simpa using this
   ·have:=World.cell?_alloc_new ((((W0.setCell ⟨g,0,none⟩ (.bool s)).setCell ⟨g,1,none⟩ (.int .u64 0)).setCell ⟨g,2,none⟩ (.int .u64 0)).setCell ⟨g,3,none⟩ (.pointer (some ⟨W0.heap.size,0,none⟩))) #[.slice a1 n1 d1,.slice a2 n2 d2] 130 1
    simpa using this
end Go.Proofs.YtollloafckcogaaGreatDoor
