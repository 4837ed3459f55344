/- Fractions as the Go text of package zav -/
import Derived.Test.YtcgecpoedojhjaaGreatDoorKPN12
import Derived.Test.YtcgecpoedojhjaaGreatDoorKPPh
namespace Go.Proofs.YtcgecpoedojhjaaGreatDoor
open Go.Proofs.Tryz
open Go.RowKit
set_option maxHeartbeats 4000000
set_option maxRecDepth 100000
def zi (w:World) (v:Value) (f:Rat):Prop :=
 (f.num.natAbs < 18446744073709551616∧f.den < 18446744073709551616∧v=.agg #[.bool (decide (f.num<0)),.int .u64 (f.num.natAbs:Int),.int .u64 ((f.den:Int)-1),.pointer none]) ∨
 ((18446744073709551616≤f.num.natAbs∨18446744073709551616≤f.den)∧∃ b v1 v2,v=.agg #[.bool (decide (f.num<0)),.int .u64 0,.int .u64 0,.pointer (some ⟨b,0,none⟩)]∧w.cell? ⟨b,0,none⟩=some v1∧w.cell? ⟨b,1,none⟩=some v2∧Sl .u64 w v1 (wd 18446744073709551616 f.num.natAbs)∧Sl .u64 w v2 (wd 18446744073709551616 f.den))
theorem zi.but {w w':World} {v:Value} {f:Rat} (h:zi w v f) (hb:But [] w w'):zi w' v f:=by
 rcases h with h|⟨h1,b,v1,v2,h2,h3,h4,h5,h6⟩
 ·exact .inl h
 ·exact .inr ⟨h1,b,v1,v2,h2,hb.zb h3 (by simp),hb.zb h4 (by simp),h5.ze hb,h6.ze hb⟩
theorem zi.over {w W:World} {v:Value} {f:Rat} (h:zi w v f) {g:Nat} {s:Bool} (c0:w.cell? ⟨g,0,none⟩=some (.bool s)) (hb:But [g] w W):zi W v f:=by
 rcases h with h1|⟨h1,b,v1,v2,h2,h3,h4,h5,h6⟩
 ·exact .inl h1
 ·have hbg:b≠g:=by
   rintro rfl
   obtain⟨a,cap,rfl,-⟩:=h5
   rw[c0] at h3
   simp at h3
  exact .inr ⟨h1,b,v1,v2,h2,hb.zb h3 (by simpa using hbg),hb.zb h4 (by simpa using hbg),h5.over hb c0 (by simp),h6.over hb c0 (by simp)⟩
def Len (f:Rat) (n:Nat):Prop:=(wd 18446744073709551616 f.num.natAbs).length≤n∧(wd 18446744073709551616 f.den).length≤n
theorem den_pos (f:Rat):0<f.den:=Nat.pos_of_ne_zero f.den_nz
theorem fu (v:Value) (f:Rat) (w:World) (hf:zi w v f) :
  Calls prog 41 #[v] w fun e w'=>∃ v1 v2,e=.returned (.tuple #[v1,v2])∧Sl .u64 w' v1 (wd 18446744073709551616 f.num.natAbs)∧Sl .u64 w' v2 (wd 18446744073709551616 f.den)∧But [] w w':=by
 rcases hf with ⟨hp,hq,rfl⟩|⟨-,b,v1,v2,rfl,hc0,hc1,hs1,hs2⟩
 ·have hq0:=den_pos f
  generalize decide (f.num<0)=s
  generalize f.num.natAbs=p at *
  generalize f.den=q at *
  go_enter func41,ntmps41
  go_wp2
  obtain⟨W,hW⟩:∃ W,W=w.alloc (.cells #[.bool s,.int .u64 (p:Int),.int .u64 ((q:Int)-1),.pointer none] 35):=⟨_,rfl⟩
  have c0:W.cell? ⟨w.heap.size,0,none⟩=some (.bool s):=by rw[hW];simp
  have c1:W.cell? ⟨w.heap.size,1,none⟩=some (.int .u64 (p:Int)):=by rw[hW];simp
  have c2:W.cell? ⟨w.heap.size,2,none⟩=some (.int .u64 ((q:Int)-1)):=by rw[hW];simp
  have c3:W.cell? ⟨w.heap.size,3,none⟩=some (.pointer none):=by rw[hW];simp
  have hB:But [] w W:=by rw[hW];exact (But.refl _ _).alloc _
  rw[← hW]
  clear hW
  generalize w.heap.size=g at *
  go_region_held (fun w'=>w'.cell? ⟨g,0,none⟩=some (.bool s)∧w'.cell? ⟨g,1,none⟩=some (.int .u64 (p:Int))∧w'.cell? ⟨g,2,none⟩=some (.int .u64 ((q:Int)-1))∧w'.cell? ⟨g,3,none⟩=some (.pointer none)) (go_keep) (first
   | (go_at_call_of 80 (Value.int IntKind.u64 (p:Int));refine (jo p hp _).mono ?_;rintro e w1 ⟨v1,rfl,hv1,hb1,-⟩;have B1:But [] W w1:=(by first | exact hb1 | exact (But.refl _ _).drew.trans' hb1);have k0:=B1.zb c0 (by simp);have k1:=B1.zb c1 (by simp);have k2:=B1.zb c2 (by simp);have k3:=B1.zb c3 (by simp))
   | (go_at_call 76;refine (gu s p q hq hq0 _).mono ?_;rintro e w2 ⟨rfl,hb2⟩;have B2:But [] W w2:=B1.trans' hb2;have l0:=B2.zb c0 (by simp);have l1:=B2.zb c1 (by simp);have l2:=B2.zb c2 (by simp);have l3:=B2.zb c3 (by simp))
   | (go_at_call_of 80 (Value.int IntKind.u64 (q:Int));refine (jo q hq _).mono ?_;rintro e w3 ⟨v3,rfl,hv3,hb3,-⟩;have B3:But [] W w3:=B2.trans' hb3;have m0:=B3.zb c0 (by simp);have m1:=B3.zb c1 (by simp);have m2:=B3.zb c2 (by simp);have m3:=B3.zb c3 (by simp)))
  all_goals go_wp2
  all_goals go_ret2
  all_goals exact⟨v1,v3,rfl,(hv1.ze hb2).ze hb3,hv3,hB.trans' B3⟩
 ·have hbl:b<w.heap.size:=lt_of_cell hc0
  have HS:=hide (And.intro hs1 hs2)
  clear hs1 hs2
  generalize decide (f.num<0)=s
  go_enter func41,ntmps41
  go_wp2
  obtain⟨W,hW⟩:∃ W,W=w.alloc (.cells #[.bool s,.int .u64 0,.int .u64 0,.pointer (some ⟨b,0,none⟩)] 35):=⟨_,rfl⟩
  have HB:Hid (But [] w W):=by show But _ _ _;rw[hW];exact (But.refl _ _).alloc _
  have c3:W.cell? ⟨w.heap.size,3,none⟩=some (.pointer (some ⟨b,0,none⟩)):=by rw[hW];simp
  have d0:=(za HB).zb hc0 (by simp)
  have d1:=(za HB).zb hc1 (by simp)
  rw[← hW]
  clear hW hc0 hc1
  generalize w.heap.size=g at *
  go_quiet (fail)
  go_wp2
  go_ret2
  exact⟨v1,v2,rfl,(za HS).1.ze ((za HB).drewN nq),(za HS).2.ze ((za HB).drewN nq),(za HB).drewN nq⟩
theorem zce (s:Bool) (m:Nat):decide (sgn s m<0)=(s && decide (m≠0)):=by
 cases s
 ·have h1:¬ ((m:Int)<0):=by omega
  simp[sgn,h1]
 ·by_cases h0:m=0
  ·subst h0;rfl
  ·have h1:-(m:Int)<0:=by omega
   have h2:0<m:=by omega
   simp[sgn,h0,h2]
theorem av (s:Bool) (v1 v2:Value) (f:Rat) (w:World) (h1:Sl .u64 w v1 (wd 18446744073709551616 f.num.natAbs)) (h2:Sl .u64 w v2 (wd 18446744073709551616 f.den)) (hs:f.num=sgn s f.num.natAbs) (hl1:(wd 18446744073709551616 f.num.natAbs).length<2147483648) (hl2:(wd 18446744073709551616 f.den).length<2147483648) :
  Calls prog 91 #[.bool s,v1,v2] w fun e w'=>∃ v,e=.returned v∧zi w' v f∧But [] w w':=by
 have hsg:decide (f.num<0)=(s && decide (f.num.natAbs≠0)):=by rw[hs,jg];exact zce _ _
 have hq0:=den_pos f
 have hle0:w.heap.size≤w.heap.size:=Nat.le_refl _
 obtain⟨W0,hW0⟩:∃ W0,W0=w.alloc (.cells #[.bool false,.int .u64 0,.int .u64 0,.pointer none] 35):=⟨_,rfl⟩
 have hB0:But [] w W0:=by rw[hW0];exact (But.refl _ _).alloc _
 have c0:W0.cell? ⟨w.heap.size,0,none⟩=some (.bool false):=by rw[hW0];simp
 have c1:W0.cell? ⟨w.heap.size,1,none⟩=some (.int .u64 0):=by rw[hW0];simp
 have c2:W0.cell? ⟨w.heap.size,2,none⟩=some (.int .u64 0):=by rw[hW0];simp
 have c3:W0.cell? ⟨w.heap.size,3,none⟩=some (.pointer none):=by rw[hW0];simp
 have fz:∀ j,W0.frozen? ⟨w.heap.size,j,none⟩=false:=by intro j;rw[hW0];simp
 have hgs:w.heap.size<W0.heap.size:=by rw[hW0];simp
 have h1':=h1.ze hB0
 have h2':=h2.ze hB0
 have HW0:=hide hW0
 have HB0:=hide hB0
 clear hW0 hB0 hle0
 by_cases hb:f.num.natAbs < 18446744073709551616∧f.den < 18446744073709551616
 ·obtain⟨hp,hq⟩:=hb
  have HW1:=hide (um v1 f.num.natAbs hp W0 h1')
  have HW2:=hide (um v2 f.den hq W0 h2')
  have HO:=hide (uj s f.num.natAbs f.den hp hq hq0 (decide (f.num<0)) hsg W0)
  have FIN:Hid (∀ W,zi W (.agg #[.bool (decide (f.num<0)),.int .u64 (f.num.natAbs:Int),.int .u64 ((f.den:Int)-1),.pointer none]) f):=fun W=>.inl ⟨hp,hq,rfl⟩
  obtain⟨a1,d1,rfl,-,-⟩:=h1
  obtain⟨a2,d2,rfl,-,-⟩:=h2
  clear hs hsg h1' h2'
  generalize (wd 18446744073709551616 f.num.natAbs).length=n1 at *
  generalize (wd 18446744073709551616 f.den).length=n2 at *
  generalize decide (f.num<0)=r at *
  generalize f.num.natAbs=p at *
  generalize hqq:f.den=q at *
  clear hqq
  go_enter func91,ntmps91
  go_wp2_with fail
  rw[← za HW0]
  obtain⟨g,hg⟩:∃ g,g=w.heap.size:=⟨_,rfl⟩
  rw[← hg] at c0 c1 c2 c3 fz hgs
  rw[← hg]
  have HG:Hid (w.heap.size≤g):=Nat.le_of_eq hg.symm
  clear hg HW0
  refine (za HW1).mono ?_
  rintro e w1 ⟨rfl,hw⟩
  obtain rfl:=hw.symm
  clear hw
  go_wp2_with fail
  refine (za HW2).mono ?_
  rintro e w1 ⟨rfl,hw⟩
  obtain rfl:=hw.symm
  clear hw
  go_wp2_with fail
  refine (za HO).mono ?_
  rintro e w1 ⟨rfl,hb1⟩
  have k0:=hb1.zb c0 (by simp)
  have k1:=hb1.zb c1 (by simp)
  have k2:=hb1.zb c2 (by simp)
  have k3:=hb1.zb c3 (by simp)
  have kf:∀ j,w1.frozen? ⟨g,j,none⟩=false:=fun j=>(hb1.frozen (p:=⟨g,j,none⟩) hgs (by simp)).trans (fz j)
  have HB1:=hide ((za HB0).trans' hb1)
  clear hb1 c0 c1 c2 c3 fz
  go_wp2
  refine bodyPost_ret (v:=.agg #[.bool r,.int .u64 (p:Int),.int .u64 ((q:Int)-1),.pointer none]) (by simp[results,results91,go_sem,k0,k1,k2,k3]) rfl ⟨_,rfl,za FIN _,?_⟩
  exact ((((za HB1).setCell (.inr (za HG)) _).setCell (.inr (za HG)) _).setCell (.inr (za HG)) _).setCell (.inr (za HG)) _
 ·have hbig:18446744073709551616≤f.num.natAbs∨18446744073709551616≤f.den:=by omega
  have hr:decide (f.num<0)=s:=by
   rw[hsg]
   have hn0:f.num.natAbs≠0:=by
    intro e0
    have e1:=f.reduced
    rw[e0,Nat.coprime_zero_left] at e1
    omega
   simp[hn0]
  have H1:=hide h1
  have H2:=hide h2
  have HWS:Hid ((f.num.natAbs < 18446744073709551616∧Calls prog 81 #[v1] W0 (fun e w'=>e=.returned (.tuple #[.int .u64 (f.num.natAbs:Int),.bool true])∧w'=W0)∧Calls prog 81 #[v2] W0 (fun e w'=>e=.returned (.tuple #[.int .u64 0,.bool false])∧w'=W0))∨(∃ (x:Nat) (t:Bool),Calls prog 81 #[v1] W0 (fun e w'=>e=.returned (.tuple #[.int .u64 0,.bool false])∧w'=W0)∧Calls prog 81 #[v2] W0 (fun e w'=>e=.returned (.tuple #[.int .u64 (x:Int),.bool t])∧w'=W0))):=by
   rcases Nat.lt_or_ge f.num.natAbs 18446744073709551616 with hp | hp
   ·exact .inl ⟨hp,um v1 _ hp W0 h1',om v2 _ (by omega) W0 h2' hl2⟩
   ·rcases Nat.lt_or_ge f.den 18446744073709551616 with hq | hq
    ·exact .inr ⟨f.den,true,om v1 _ hp W0 h1' hl1,um v2 _ hq W0 h2'⟩
    ·exact .inr ⟨0,false,om v1 _ hp W0 h1' hl1,om v2 _ hq W0 h2' hl2⟩
  obtain⟨a1,d1,rfl,-,-⟩:=h1
  obtain⟨a2,d2,rfl,-,-⟩:=h2
  have FIN:Hid (∀ W b v1 v2,W.cell? ⟨b,0,none⟩=some v1→W.cell? ⟨b,1,none⟩=some v2→Sl .u64 W v1 (wd 18446744073709551616 f.num.natAbs)→Sl .u64 W v2 (wd 18446744073709551616 f.den)→zi W (.agg #[.bool s,.int .u64 0,.int .u64 0,.pointer (some ⟨b,0,none⟩)]) f):=fun W b v1 v2 e1 e2 e3 e4=>.inr ⟨hbig,b,v1,v2,by rw[hr],e1,e2,e3,e4⟩
  clear hs hsg h1' h2' hr hb hbig
  generalize (wd 18446744073709551616 f.num.natAbs).length=n1 at *
  generalize (wd 18446744073709551616 f.den).length=n2 at *
  rcases za HWS with ⟨-,w1c,w2c⟩|⟨x,t,w1c,w2c⟩
  all_goals
   have HW1:=hide w1c
   have HW2:=hide w2c
   clear w1c w2c HWS
   go_enter func91,ntmps91
   go_wp2_with fail
   rw[← za HW0]
   obtain⟨g,hg⟩:∃ g,g=w.heap.size:=⟨_,rfl⟩
   rw[← hg] at c0 c1 c2 c3 fz hgs
   rw[← hg]
   have HG:Hid (w.heap.size≤g):=Nat.le_of_eq hg.symm
   clear hg HW0
   refine (za HW1).mono ?_
   rintro e w1 ⟨rfl,hw⟩
   obtain rfl:=hw.symm
   clear hw
   go_wp2_with fail
   refine (za HW2).mono ?_
   rintro e w1 ⟨rfl,hw⟩
   obtain rfl:=hw.symm
   clear hw
   go_wp2
   have hBf:=(((((za HB0).setCell (p:=⟨g,0,none⟩) (.inr (za HG)) (.bool s)).setCell (p:=⟨g,1,none⟩) (.inr (za HG)) (.int .u64 0)).setCell (p:=⟨g,2,none⟩) (.inr (za HG)) (.int .u64 0)).setCell (p:=⟨g,3,none⟩) (.inr (za HG)) (.pointer (some ⟨W0.heap.size,0,none⟩))).alloc (.cells #[.slice a1 n1 d1,.slice a2 n2 d2] 152)
   refine bodyPost_ret (v:=.agg #[.bool s,.int .u64 0,.int .u64 0,.pointer (some ⟨W0.heap.size,0,none⟩)]) (by simp[results,results91,go_sem,c0,c1,c2,c3,hgs]) rfl ⟨_,rfl,za FIN _ W0.heap.size (.slice a1 n1 d1) (.slice a2 n2 d2) ?_ ?_ ((za H1).ze hBf) ((za H2).ze hBf),hBf⟩
   ·have:=World.cell?_alloc_new ((((W0.setCell ⟨g,0,none⟩ (.bool s)).setCell ⟨g,1,none⟩ (.int .u64 0)).setCell ⟨g,2,none⟩ (.int .u64 0)).setCell ⟨g,3,none⟩ (.pointer (some ⟨W0.heap.size,0,none⟩))) #[.slice a1 n1 d1,.slice a2 n2 d2] 152 0
    simpa using this
   ·have:=World.cell?_alloc_new ((((W0.setCell ⟨g,0,none⟩ (.bool s)).setCell ⟨g,1,none⟩ (.int .u64 0)).setCell ⟨g,2,none⟩ (.int .u64 0)).setCell ⟨g,3,none⟩ (.pointer (some ⟨W0.heap.size,0,none⟩))) #[.slice a1 n1 d1,.slice a2 n2 d2] 152 1
    simpa using this
def vw (X:Nat):Nat:=qh X*2^lz (qh X)+(if (wd 18446744073709551616 X).length≤1 then 0 else (wd 18446744073709551616 X)[(wd 18446744073709551616 X).length-2]?.getD 0/2^(64-lz (qh X)))
def zbh (X:Nat):Nat:=64*((wd 18446744073709551616 X).length-1)+63-lz (qh X)
theorem zjr (X:Nat) (h:0<X):znl X (vw X) (zbh X):=by
 obtain⟨t1,t2,-,-⟩:=zed X h
 obtain⟨l1,l2,l3,-⟩:=uo (qh X) t1 t2
 have hl:0<(wd 18446744073709551616 X).length:=by rw[Nat.pos_iff_ne_zero];intro e;rw[qo (by omega)] at e;omega
 unfold vw zbh
 by_cases h1:(wd 18446744073709551616 X).length≤1
 ·have hX:X < 18446744073709551616:=by
   have:=zw (B:=18446744073709551616) (by omega) X 1 h1
   rw[Nat.pow_one] at this;exact this
  have e:qh X=X:=by unfold qh;rw[zcc X h hX];rfl
  rw[if_pos h1,Nat.add_zero,show (wd 18446744073709551616 X).length-1=0 from by omega,Nat.mul_zero,Nat.zero_add]
  rw[e] at l1 l2 l3 ⊢
  exact qfl X _ l1 l3 l2
 ·rw[if_neg h1]
  obtain⟨m,hm⟩:∃ m,(wd 18446744073709551616 X).length=m+2:=⟨(wd 18446744073709551616 X).length-2,by omega⟩
  have e2:=o8 (wd 18446744073709551616 X) m (by omega) (qy (by omega) X)
  have e3:=qg (qy (B:=18446744073709551616) (by omega) X) (by omega:0 < 18446744073709551616) m
  have e4:=zak 18446744073709551616 (wd 18446744073709551616 X) m (by omega)
  have e5:=zjl 18446744073709551616 (wd 18446744073709551616 X) (m+1) (by omega)
  rw[List.drop_eq_nil_of_le (by omega:(wd 18446744073709551616 X).length≤m+1+1)] at e5
  rw[xh (by omega),e5] at e4
  rw[show (wd 18446744073709551616 X)[m+1]?.getD 0=qh X from by unfold qh;rw[hm];rfl] at e4
  rw[show (wd 18446744073709551616 X).length-2=m from by omega,show (wd 18446744073709551616 X).length-1=m+1 from by omega]
  simp only[vl,Nat.mul_zero,Nat.add_zero] at e4
  exact (qaf X _ _ m _ (qh X) (lz (qh X)) rfl e4 e2 e3 l1 l3 l2).1
theorem zil (v:Value) (X:Nat) (hX:0<X) (w:World) (hv:Sl .u64 w v (wd 18446744073709551616 X)) (hl:(wd 18446744073709551616 X).length<134217728) (x:Nat) (N:Int) (hx:Hid (x=vw X)) (hN:Hid (N=(zbh X:Int)-63)) :
  Calls prog 139 #[v] w fun e w'=>e=.returned (.tuple #[.int .u64 (x:Int),.int .i64 N])∧w'=w:=by
 obtain⟨t1,t2,-,-⟩:=zed X hX
 obtain⟨hs,l2,l3,-⟩:=uo (qh X) t1 t2
 have LZ:=hide (fun W=>zdt (qh X) t1 t2 W)
 rcases hv.open with ⟨e,-⟩|⟨hp,b,o,c,rfl,hc,-,hcell⟩
 ·rw[ou (by omega)] at e;omega
 have hct:=hcell ((wd 18446744073709551616 X).length-1) (by omega)
 rw[show (wd 18446744073709551616 X)[(wd 18446744073709551616 X).length-1]?.getD 0=qh X from rfl] at hct
 have E0:IntKind.u64.wrap (((qh X:Nat):Int)*2^lz (qh X))=((qh X*2^lz (qh X):Nat):Int):=by
  have e:((qh X:Nat):Int)*2^lz (qh X)=((qh X*2^lz (qh X):Nat):Int):=by simp
  rw[e,IntKind.wrap_u64];omega
 unfold vw at hx
 unfold zbh at hN
 by_cases h1:(wd 18446744073709551616 X).length≤1
 ·have hl1:(wd 18446744073709551616 X).length=1:=by omega
  rw[if_pos h1,Nat.add_zero] at hx
  rw[hl1] at hct hN ⊢
  rw[Nat.sub_self,Nat.add_zero] at hct
  have hNN:Hid (N=-((lz (qh X):Nat):Int)):=by
   show _=_;rw[za hN];omega
  clear hcell hN hv
  generalize qh X*2^lz (qh X)=y at *
  generalize lz (qh X)=s at *
  generalize qh X=t at *
  have HX:x=y:=za hx
  subst HX
  have HN:N=-(s:Int):=za hNN
  subst HN
  go_enter func139,ntmps139
  go_wp2_with fail
  refine (za LZ _).mono ?_
  rintro e w1 ⟨rfl,hw⟩
  obtain rfl:=hw.symm
  clear hw
  go_wp2
  go_ret2
  exact⟨rfl,rfl⟩
 ·rw[if_neg h1] at hx
  have hc2:=hcell ((wd 18446744073709551616 X).length-2) (by omega)
  have e3:=qg (qy (B:=18446744073709551616) (by omega) X) (by omega:0 < 18446744073709551616) ((wd 18446744073709551616 X).length-2)
  generalize (wd 18446744073709551616 X)[(wd 18446744073709551616 X).length-2]?.getD 0=y at *
  have hu:y/2^(64-lz (qh X))<2^lz (qh X):=by
   have hB:18446744073709551616=2^(64-lz (qh X))*2^lz (qh X):=by rw[← Nat.pow_add,show 64-lz (qh X)+lz (qh X)=64 from by omega]
   rw[Nat.div_lt_iff_lt_mul (Nat.pow_pos (by omega)),Nat.mul_comm,← hB];exact e3
  have hub:y/2^(64-lz (qh X)) < 18446744073709551616:=Nat.lt_of_le_of_lt (Nat.div_le_self _ _) e3
  have hor:qh X*2^lz (qh X) ||| y/2^(64-lz (qh X))=qh X*2^lz (qh X)+y/2^(64-lz (qh X)):=by
   rw[Nat.mul_comm,Nat.two_pow_add_eq_or_of_lt hu]
  have E1:bits .or .u64 ((qh X*2^lz (qh X):Nat):Int) ((y/2^(64-lz (qh X)):Nat):Int)=((qh X*2^lz (qh X)+y/2^(64-lz (qh X)):Nat):Int):=by
   rw[bits_or_u64_nat _ _ l2 hub,hor]
  have E2:((y:Nat):Int)/2^(64-lz (qh X))=((y/2^(64-lz (qh X)):Nat):Int):=by simp
  have E3:(64-((lz (qh X):Nat):Int)).toNat=64-lz (qh X):=by omega
  clear hcell hv hor hu
  generalize qh X*2^lz (qh X)+y/2^(64-lz (qh X))=z at *
  generalize y/2^(64-lz (qh X))=q at *
  generalize qh X*2^lz (qh X)=p at *
  generalize lz (qh X)=s at *
  generalize qh X=t at *
  generalize (wd 18446744073709551616 X).length=n at *
  have HX:x=z:=za hx
  subst HX
  have HN:N=((n:Int)-1)*64-s:=by rw[za hN];omega
  subst HN
  obtain⟨m,rfl⟩:∃ m,n=m+2:=⟨n-2,by omega⟩
  rw[show m+2-1=m+1 from rfl] at hct
  rw[show m+2-2=m from rfl] at hc2
  have hm0:(0:Int)≤(m:Int):=by omega
  clear hx hN
  go_enter func139,ntmps139
  go_wp2_with fail
  refine (za LZ _).mono ?_
  rintro e w1 ⟨rfl,hw⟩
  obtain rfl:=hw.symm
  clear hw
  go_wp2
  go_ret2
  refine⟨?_,rfl⟩
  go_num
def zbc (A C:Nat):Nat:=if vw A*vw C / 18446744073709551616<9223372036854775808 then vw A*vw C / 18446744073709551616*2+vw A*vw C % 18446744073709551616/9223372036854775808 else vw A*vw C / 18446744073709551616
def zac (A C:Nat):Nat:=if vw A*vw C / 18446744073709551616<9223372036854775808 then zbh A+zbh C+63 else zbh A+zbh C+64
theorem zxc (A C:Nat) (hA:0<A) (hC:0<C):znk (A*C) (zbc A C) (zac A C):=by
 have h:=zjr A hA
 have g:=zjr C hC
 unfold zbc zac
 split
 ·exact qag h g (by assumption)
 ·exact zvy h g (by omega)
theorem zgc (X:Nat) (n:Nat) (h:(wd 18446744073709551616 X).length<n):zbh X≤64*n:=by unfold zbh;omega
theorem zsn (A C n:Nat) (hA:(wd 18446744073709551616 A).length<n) (hC:(wd 18446744073709551616 C).length<n):zac A C≤128*n+64:=by
 have h1:=zgc A n hA
 have h2:=zgc C n hC
 unfold zac
 split <;> omega
theorem zat (va vc:Value) (A C:Nat) (hA:0<A) (hC:0<C) (w:World) (ha:Sl .u64 w va (wd 18446744073709551616 A)) (hc:Sl .u64 w vc (wd 18446744073709551616 C)) (hla:(wd 18446744073709551616 A).length<134217728) (hlc:(wd 18446744073709551616 C).length<134217728) (p:Nat) (K:Int) (hp:Hid (p=zbc A C)) (hK:Hid (K=(zac A C:Int)-126)) :
  Calls prog 112 #[va,vc] w fun e w'=>e=.returned (.tuple #[.int .u64 (p:Int),.int .i64 K])∧w'=w:=by
 have LA:=hide (zil va A hA w ha hla (vw A) ((zbh A:Int)-63) rfl rfl)
 have LC:=hide (zil vc C hC w hc hlc (vw C) ((zbh C:Int)-63) rfl rfl)
 have ba:=(zjr A hA).hi
 have bc:=(zjr C hC).hi
 have na:=zgc A _ hla
 have nc:=zgc C _ hlc
 have MU:=hide (fun W=>Tryz.bits_Mul64 (vw A) (vw C) ba bc W)
 have hzB:vw A*vw C / 18446744073709551616 < 18446744073709551616:=by rw[Nat.div_lt_iff_lt_mul (by omega)];exact Nat.mul_lt_mul'' ba bc
 have hzL:vw A*vw C % 18446744073709551616 < 18446744073709551616:=Nat.mod_lt _ (by omega)
 unfold zbc at hp
 unfold zac at hK
 obtain⟨aa,ca,rfl,-,-⟩:=ha
 obtain⟨ac,cc,rfl,-,-⟩:=hc
 generalize (wd 18446744073709551616 A).length=la at *
 generalize (wd 18446744073709551616 C).length=lc at *
 generalize vw A*vw C / 18446744073709551616=hi at *
 generalize vw A*vw C % 18446744073709551616=lo at *
 generalize vw A=x at *
 generalize vw C=y at *
 generalize zbh A=n at *
 generalize zbh C=m at *
 by_cases hh:hi<9223372036854775808
 ·rw[if_pos hh] at hp hK
  have d1:((hi:Int)/9223372036854775808==0)=true:=beq_iff_eq.2 (by omega)
  have hor:bits .or .u64 ((hi*2:Nat):Int) ((lo/9223372036854775808:Nat):Int)=((hi*2+lo/9223372036854775808:Nat):Int):=by
   rw[bits_or_u64_nat _ _ (by omega) (by omega)]
   have:=Nat.two_pow_add_eq_or_of_lt (i:=1) (b:=lo/9223372036854775808) (by omega) hi
   rw[Nat.pow_one,Nat.mul_comm] at this
   rw[this]
  have e1:IntKind.u64.wrap ((hi:Int)*2)=((hi*2:Nat):Int):=by rw[IntKind.wrap_u64];omega
  have e2:(lo:Int)/9223372036854775808=((lo/9223372036854775808:Nat):Int):=by simp
  generalize hi*2+lo/9223372036854775808=z at *
  generalize lo/9223372036854775808=z2 at *
  generalize hi*2=z1 at *
  have HP:p=z:=za hp
  subst HP
  have HK:K=(n:Int)+m-63:=by rw[za hK];omega
  subst HK
  clear hp hK
  go_enter func112,ntmps112
  go_wp2_with fail
  refine (za LA).mono ?_
  rintro e w1 ⟨rfl,hw⟩
  obtain rfl:=hw.symm
  clear hw
  go_wp2_with fail
  refine (za LC).mono ?_
  rintro e w1 ⟨rfl,hw⟩
  obtain rfl:=hw.symm
  clear hw
  go_wp2_with fail
  refine (za MU _).mono ?_
  rintro e w1 ⟨rfl,hw⟩
  obtain rfl:=hw.symm
  clear hw
  go_wp2
  go_ret2
  refine⟨?_,rfl⟩
  go_num
 ·rw[if_neg hh] at hp hK
  have d1:((hi:Int)/9223372036854775808==0)=false:=beq_eq_false_iff_ne.2 (by omega)
  have HP:p=hi:=za hp
  subst HP
  have HK:K=(n:Int)+m-62:=by rw[za hK];omega
  subst HK
  clear hp hK
  go_enter func112,ntmps112
  go_wp2_with fail
  refine (za LA).mono ?_
  rintro e w1 ⟨rfl,hw⟩
  obtain rfl:=hw.symm
  clear hw
  go_wp2_with fail
  refine (za LC).mono ?_
  rintro e w1 ⟨rfl,hw⟩
  obtain rfl:=hw.symm
  clear hw
  go_wp2_with fail
  refine (za MU _).mono ?_
  rintro e w1 ⟨rfl,hw⟩
  obtain rfl:=hw.symm
  clear hw
  go_wp2
  go_ret2
  refine⟨?_,rfl⟩
  go_num
end Go.Proofs.YtcgecpoedojhjaaGreatDoor
