/- Fractions as the Go text of package zke -/
import Derived.Deep.LoopGhost
import Derived.Test.YtpmjeclpkahkmaaGreatDoorVG0
namespace Go.Proofs.YtpmjeclpkahkmaaGreatDoor
set_option linter.unusedVariables false
open Go.Proofs.Tryz
open Go.RowKit
set_option maxHeartbeats 8000000
set_option maxRecDepth 100000
def aq (w:World) (v:Value) (f:Rat):Prop :=
 (f.num.natAbs < 18446744073709551616∧f.den < 18446744073709551616∧v=.agg #[.bool (decide (f.num<0)),.int .u64 (f.num.natAbs:Int),.int .u64 ((f.den:Int)-1),.pointer none]) ∨
 ((18446744073709551616≤f.num.natAbs∨18446744073709551616≤f.den)∧∃ b v1 v2,v=.agg #[.bool (decide (f.num<0)),.int .u64 0,.int .u64 0,.pointer (some ⟨b,0,none⟩)]∧w.cell? ⟨b,0,none⟩=some v1∧w.cell? ⟨b,1,none⟩=some v2∧Sl .u64 w v1 (wd 18446744073709551616 f.num.natAbs)∧Sl .u64 w v2 (wd 18446744073709551616 f.den))
theorem aq.but {w w':World} {v:Value} {f:Rat} (h:aq w v f) (hb:But [] w w'):aq w' v f:=by(
rcases h with h|⟨h1,b,v1,v2,h2,h3,h4,h5,h6⟩
·exact .inl h
·exact .inr ⟨h1,b,v1,v2,h2,hb.ag h3 (by simp),hb.ag h4 (by simp),h5.ah hb,h6.ah hb⟩)
theorem aq.over {w W:World} {v:Value} {f:Rat} (h:aq w v f) {g:Nat} {s:Bool} (c0:w.cell? ⟨g,0,none⟩=some (.bool s)) (hb:But [g] w W):aq W v f:=by(
rcases h with h1|⟨h1,b,v1,v2,h2,h3,h4,h5,h6⟩
·exact .inl h1
·(
have hbg:b≠g:=by
 rintro rfl
 obtain⟨a,cap,rfl,-⟩:=h5
 rw[c0] at h3
 simp at h3
exact .inr ⟨h1,b,v1,v2,h2,hb.ag h3 (by simpa using hbg),hb.ag h4 (by simpa using hbg),h5.over hb c0 (by simp),h6.over hb c0 (by simp)⟩))
def Len (f:Rat) (n:Nat):Prop:=(wd 18446744073709551616 f.num.natAbs).length≤n∧(wd 18446744073709551616 f.den).length≤n
theorem den_pos (f:Rat):0<f.den:=Nat.pos_of_ne_zero f.den_nz
theorem dh (v:Value) (f:Rat) (w:World) (hf:aq w v f) :
  Calls prog 86 #[v] w fun e w'=>∃ v1 v2,e=.returned (.tuple #[v1,v2])∧Sl .u64 w' v1 (wd 18446744073709551616 f.num.natAbs)∧Sl .u64 w' v2 (wd 18446744073709551616 f.den)∧But [] w w':=by(
rcases hf with ⟨hp,hq,rfl⟩|⟨-,b,v1,v2,rfl,hc0,hc1,hs1,hs2⟩
·(
have hq0:=den_pos f
generalize decide (f.num<0)=s
generalize f.num.natAbs=p at *
generalize f.den=q at *
go_enter func86,ntmps86
go_wp2
obtain⟨W,hW⟩:∃ W,W=w.alloc (.cells #[.bool s,.int .u64 (p:Int),.int .u64 ((q:Int)-1),.pointer none] 27):=⟨_,rfl⟩
have c0:W.cell? ⟨w.heap.size,0,none⟩=some (.bool s):=by rw[hW];simp
have c1:W.cell? ⟨w.heap.size,1,none⟩=some (.int .u64 (p:Int)):=by rw[hW];simp
have c2:W.cell? ⟨w.heap.size,2,none⟩=some (.int .u64 ((q:Int)-1)):=by rw[hW];simp
have c3:W.cell? ⟨w.heap.size,3,none⟩=some (.pointer none):=by rw[hW];simp
have hB:But [] w W:=by rw[hW];exact (But.refl _ _).alloc _
rw[← hW]
clear hW
generalize w.heap.size=g at *
go_region_held (fun w'=>w'.cell? ⟨g,0,none⟩=some (.bool s)∧w'.cell? ⟨g,1,none⟩=some (.int .u64 (p:Int))∧w'.cell? ⟨g,2,none⟩=some (.int .u64 ((q:Int)-1))∧w'.cell? ⟨g,3,none⟩=some (.pointer none)) (go_keep) (first
 | (go_at_call_of 166 (Value.int IntKind.u64 (p:Int));refine (jh p hp _).mono ?_;rintro e w1 ⟨v1,rfl,hv1,hb1,-⟩;have B1:But [] W w1:=(by first | exact hb1 | exact (But.refl _ _).drew.trans' hb1);have k0:=B1.ag c0 (by simp);have k1:=B1.ag c1 (by simp);have k2:=B1.ag c2 (by simp);have k3:=B1.ag c3 (by simp))
 | (go_at_call 167;refine (nu s p q hq hq0 _).mono ?_;rintro e w2 ⟨rfl,hb2⟩;have B2:But [] W w2:=B1.trans' hb2;have l0:=B2.ag c0 (by simp);have l1:=B2.ag c1 (by simp);have l2:=B2.ag c2 (by simp);have l3:=B2.ag c3 (by simp))
 | (go_at_call_of 166 (Value.int IntKind.u64 (q:Int));refine (jh q hq _).mono ?_;rintro e w3 ⟨v3,rfl,hv3,hb3,-⟩;have B3:But [] W w3:=B2.trans' hb3;have m0:=B3.ag c0 (by simp);have m1:=B3.ag c1 (by simp);have m2:=B3.ag c2 (by simp);have m3:=B3.ag c3 (by simp)))
all_goals go_wp2
all_goals go_ret2
all_goals exact⟨v1,v3,rfl,(hv1.ah hb2).ah hb3,hv3,hB.trans' B3⟩)
·(
have hbl:b<w.heap.size:=ai hc0
have HS:=af (And.intro hs1 hs2)
clear hs1 hs2
generalize decide (f.num<0)=s
go_enter func86,ntmps86
go_wp2
obtain⟨W,hW⟩:∃ W,W=w.alloc (.cells #[.bool s,.int .u64 0,.int .u64 0,.pointer (some ⟨b,0,none⟩)] 27):=⟨_,rfl⟩
have HB:Hid (But [] w W):=by show But _ _ _;rw[hW];exact (But.refl _ _).alloc _
have c3:W.cell? ⟨w.heap.size,3,none⟩=some (.pointer (some ⟨b,0,none⟩)):=by rw[hW];simp
have d0:=(ae HB).ag hc0 (by simp)
have d1:=(ae HB).ag hc1 (by simp)
rw[← hW]
clear hW hc0 hc1
generalize w.heap.size=g at *
go_quiet (fail)
go_wp2
go_ret2
exact⟨v1,v2,rfl,(ae HS).1.ah ((ae HB).drewN nq),(ae HS).2.ah ((ae HB).drewN nq),(ae HB).drewN nq⟩))
theorem zek (s:Bool) (m:Nat):decide (sgn s m<0)=(s && decide (m≠0)):=by(
cases s
·have h1:¬ ((m:Int)<0):=by omega
 simp[sgn,h1]
·(
by_cases h0:m=0
·subst h0;rfl
·have h1:-(m:Int)<0:=by omega
 have h2:0<m:=by omega
 simp[sgn,h0,h2]))
theorem o8 (s:Bool) (v1 v2:Value) (f:Rat) (w:World) (h1:Sl .u64 w v1 (wd 18446744073709551616 f.num.natAbs)) (h2:Sl .u64 w v2 (wd 18446744073709551616 f.den)) (hs:f.num=sgn s f.num.natAbs) (hl1:(wd 18446744073709551616 f.num.natAbs).length<2147483648) (hl2:(wd 18446744073709551616 f.den).length<2147483648) :
  Calls prog 194 #[.bool s,v1,v2] w fun e w'=>∃ v,e=.returned v∧aq w' v f∧But [] w w':=by(
have hsg:decide (f.num<0)=(s && decide (f.num.natAbs≠0)):=by rw[hs,jk];exact zek _ _
have hq0:=den_pos f
have hle0:w.heap.size≤w.heap.size:=Nat.le_refl _
obtain⟨W0,hW0⟩:∃ W0,W0=w.alloc (.cells #[.bool false,.int .u64 0,.int .u64 0,.pointer none] 27):=⟨_,rfl⟩
have hB0:But [] w W0:=by rw[hW0];exact (But.refl _ _).alloc _
have c0:W0.cell? ⟨w.heap.size,0,none⟩=some (.bool false):=by rw[hW0];simp
have c1:W0.cell? ⟨w.heap.size,1,none⟩=some (.int .u64 0):=by rw[hW0];simp
have c2:W0.cell? ⟨w.heap.size,2,none⟩=some (.int .u64 0):=by rw[hW0];simp
have c3:W0.cell? ⟨w.heap.size,3,none⟩=some (.pointer none):=by rw[hW0];simp
have fz:∀ j,W0.frozen? ⟨w.heap.size,j,none⟩=false:=by intro j;rw[hW0];simp
have hgs:w.heap.size<W0.heap.size:=by rw[hW0];simp
have h1':=h1.ah hB0
have h2':=h2.ah hB0
have HW0:=af hW0
have HB0:=af hB0
clear hW0 hB0 hle0
by_cases hb:f.num.natAbs < 18446744073709551616∧f.den < 18446744073709551616
·(
obtain⟨hp,hq⟩:=hb
have HW1:=af (zbf v1 f.num.natAbs hp W0 h1')
have HW2:=af (zbf v2 f.den hq W0 h2')
have HO:=af (zbe s f.num.natAbs f.den hp hq hq0 (decide (f.num<0)) hsg W0)
have FIN:Hid (∀ W,aq W (.agg #[.bool (decide (f.num<0)),.int .u64 (f.num.natAbs:Int),.int .u64 ((f.den:Int)-1),.pointer none]) f):=fun W=>.inl ⟨hp,hq,rfl⟩
obtain⟨a1,d1,rfl,-,-⟩:=h1
obtain⟨a2,d2,rfl,-,-⟩:=h2
clear hs hsg h1' h2'
generalize (wd 18446744073709551616 f.num.natAbs).length=n1 at *
generalize (wd 18446744073709551616 f.den).length=n2 at *
generalize decide (f.num<0)=r at *
generalize f.num.natAbs=p at *
generalize hqq:f.den=q at *
clear hqq
go_enter func194,ntmps194
go_wp2_with fail
rw[← ae HW0]
obtain⟨g,hg⟩:∃ g,g=w.heap.size:=⟨_,rfl⟩
rw[← hg] at c0 c1 c2 c3 fz hgs
rw[← hg]
have HG:Hid (w.heap.size≤g):=Nat.le_of_eq hg.symm
clear hg HW0
refine (ae HW1).mono ?_
rintro e w1 ⟨rfl,hw⟩
obtain rfl:=hw.symm
clear hw
go_wp2_with fail
refine (ae HW2).mono ?_
rintro e w1 ⟨rfl,hw⟩
obtain rfl:=hw.symm
clear hw
go_wp2_with fail
refine (ae HO).mono ?_
rintro e w1 ⟨rfl,hb1⟩
have k0:=hb1.ag c0 (by simp)
have k1:=hb1.ag c1 (by simp)
have k2:=hb1.ag c2 (by simp)
have k3:=hb1.ag c3 (by simp)
have kf:∀ j,w1.frozen? ⟨g,j,none⟩=false:=fun j=>(hb1.frozen (p:=⟨g,j,none⟩) hgs (by simp)).trans (fz j)
have HB1:=af ((ae HB0).trans' hb1)
clear hb1 c0 c1 c2 c3 fz
go_wp2
refine bodyPost_ret (v:=.agg #[.bool r,.int .u64 (p:Int),.int .u64 ((q:Int)-1),.pointer none]) (by simp[results,results194,go_sem,k0,k1,k2,k3]) rfl ⟨_,rfl,ae FIN _,?_⟩
exact ((((ae HB1).setCell (.inr (ae HG)) _).setCell (.inr (ae HG)) _).setCell (.inr (ae HG)) _).setCell (.inr (ae HG)) _)
·(
have hbig:18446744073709551616≤f.num.natAbs∨18446744073709551616≤f.den:=by omega
have hr:decide (f.num<0)=s:=by
 rw[hsg]
 have hn0:f.num.natAbs≠0:=by
  intro e0
  have e1:=f.reduced
  rw[e0,Nat.coprime_zero_left] at e1
  omega
 simp[hn0]
have H1:=af h1
have H2:=af h2
have HWS:Hid ((f.num.natAbs < 18446744073709551616∧Calls prog 168 #[v1] W0 (fun e w'=>e=.returned (.tuple #[.int .u64 (f.num.natAbs:Int),.bool true])∧w'=W0)∧Calls prog 168 #[v2] W0 (fun e w'=>e=.returned (.tuple #[.int .u64 0,.bool false])∧w'=W0))∨(∃ (x:Nat) (t:Bool),Calls prog 168 #[v1] W0 (fun e w'=>e=.returned (.tuple #[.int .u64 0,.bool false])∧w'=W0)∧Calls prog 168 #[v2] W0 (fun e w'=>e=.returned (.tuple #[.int .u64 (x:Int),.bool t])∧w'=W0))):=by
 rcases Nat.lt_or_ge f.num.natAbs 18446744073709551616 with hp | hp
 ·exact .inl ⟨hp,zbf v1 _ hp W0 h1',zae v2 _ (by omega) W0 h2' hl2⟩
 ·rcases Nat.lt_or_ge f.den 18446744073709551616 with hq | hq
  ·exact .inr ⟨f.den,true,zae v1 _ hp W0 h1' hl1,zbf v2 _ hq W0 h2'⟩
  ·exact .inr ⟨0,false,zae v1 _ hp W0 h1' hl1,zae v2 _ hq W0 h2' hl2⟩
obtain⟨a1,d1,rfl,-,-⟩:=h1
obtain⟨a2,d2,rfl,-,-⟩:=h2
have FIN:Hid (∀ W b v1 v2,W.cell? ⟨b,0,none⟩=some v1→W.cell? ⟨b,1,none⟩=some v2→Sl .u64 W v1 (wd 18446744073709551616 f.num.natAbs)→Sl .u64 W v2 (wd 18446744073709551616 f.den)→aq W (.agg #[.bool s,.int .u64 0,.int .u64 0,.pointer (some ⟨b,0,none⟩)]) f):=fun W b v1 v2 e1 e2 e3 e4=>.inr ⟨hbig,b,v1,v2,by rw[hr],e1,e2,e3,e4⟩
clear hs hsg h1' h2' hr hb hbig
generalize (wd 18446744073709551616 f.num.natAbs).length=n1 at *
generalize (wd 18446744073709551616 f.den).length=n2 at *
rcases ae HWS with ⟨-,w1c,w2c⟩|⟨x,t,w1c,w2c⟩
all_goals(
have HW1:=af w1c
have HW2:=af w2c
clear w1c w2c HWS
go_enter func194,ntmps194
go_wp2_with fail
rw[← ae HW0]
obtain⟨g,hg⟩:∃ g,g=w.heap.size:=⟨_,rfl⟩
rw[← hg] at c0 c1 c2 c3 fz hgs
rw[← hg]
have HG:Hid (w.heap.size≤g):=Nat.le_of_eq hg.symm
clear hg HW0
refine (ae HW1).mono ?_
rintro e w1 ⟨rfl,hw⟩
obtain rfl:=hw.symm
clear hw
go_wp2_with fail
refine (ae HW2).mono ?_
rintro e w1 ⟨rfl,hw⟩
obtain rfl:=hw.symm
clear hw
go_wp2
have hBf:=(((((ae HB0).setCell (p:=⟨g,0,none⟩) (.inr (ae HG)) (.bool s)).setCell (p:=⟨g,1,none⟩) (.inr (ae HG)) (.int .u64 0)).setCell (p:=⟨g,2,none⟩) (.inr (ae HG)) (.int .u64 0)).setCell (p:=⟨g,3,none⟩) (.inr (ae HG)) (.pointer (some ⟨W0.heap.size,0,none⟩))).alloc (.cells #[.slice a1 n1 d1,.slice a2 n2 d2] 238)
refine bodyPost_ret (v:=.agg #[.bool s,.int .u64 0,.int .u64 0,.pointer (some ⟨W0.heap.size,0,none⟩)]) (by simp[results,results194,go_sem,c0,c1,c2,c3,hgs]) rfl ⟨_,rfl,ae FIN _ W0.heap.size (.slice a1 n1 d1) (.slice a2 n2 d2) ?_ ?_ ((ae H1).ah hBf) ((ae H2).ah hBf),hBf⟩
·have:=World.cell?_alloc_new ((((W0.setCell ⟨g,0,none⟩ (.bool s)).setCell ⟨g,1,none⟩ (.int .u64 0)).setCell ⟨g,2,none⟩ (.int .u64 0)).setCell ⟨g,3,none⟩ (.pointer (some ⟨W0.heap.size,0,none⟩))) #[.slice a1 n1 d1,.slice a2 n2 d2] 238 0
 simpa using this
·have:=World.cell?_alloc_new ((((W0.setCell ⟨g,0,none⟩ (.bool s)).setCell ⟨g,1,none⟩ (.int .u64 0)).setCell ⟨g,2,none⟩ (.int .u64 0)).setCell ⟨g,3,none⟩ (.pointer (some ⟨W0.heap.size,0,none⟩))) #[.slice a1 n1 d1,.slice a2 n2 d2] 238 1
 simpa using this)))
def zkl (w:World) (X Y:Nat) (Y':Nat) (vx vy:Value) (wr:World):Prop:=∃ X',Sl .u64 wr vx (wd 18446744073709551616 X')∧Sl .u64 wr vy (wd 18446744073709551616 Y')∧Y'≤X'∧X'≤X∧Nat.gcd X' Y'=Nat.gcd X Y∧But [] w wr∧(2≤(wd 18446744073709551616 Y').length→zpd w.heap.size wr vx vy X' Y')
theorem zkz (vx vy:Value) (X Y:Nat) (w:World) (hx:Sl .u64 w vx (wd 18446744073709551616 X)) (hy:Sl .u64 w vy (wd 18446744073709551616 Y)) (hle:Y<X) (h1:1<Y) (hl:(wd 18446744073709551616 X).length≤1000000) (u v:Value) (r:Int) (hcmp:Hid (Calls prog 231 #[u,v] w fun e w'=>e=.returned (.int .i64 r)∧∃ q,w'=w.drewN q)) (huv:(u=vx∧v=vy∧r=1)∨(u=vy∧v=vx∧r=-1)) :
  Calls prog 193 #[u,v] w fun e w'=>∃ v',e=.returned v'∧Sl .u64 w' v' (wd 18446744073709551616 (Nat.gcd X Y))∧But [] w w':=by(
have hlen:=av (Nat.le_of_lt hle)
have hYl:0<(wd 18446744073709551616 Y).length:=by rw[Nat.pos_iff_ne_zero];intro e;rw[zh (by omega)] at e;omega
have HO:=af (fun W (h:Sl .u64 W vy (wd 18446744073709551616 Y))=>mo vy Y W h (by omega) false (by show false=_;simp;omega))
rcases hx.open with ⟨e,-⟩|⟨-,b1,o1,c1,rfl,hc1,-,-⟩
·rw[e,List.length_nil] at hlen;omega
rcases hy.open with ⟨e,-⟩|⟨-,b2,o2,c2,rfl,hc2,-,-⟩
·rw[e] at hYl;simp at hYl
have HC1:=af (fun W (h:Sl .u64 W (.slice (some ⟨b1,o1,none⟩) (wd 18446744073709551616 X).length c1) (wd 18446744073709551616 X))=>zqi b1 o1 c1 (wd 18446744073709551616 X) W h (by omega) (by omega))
have HC2:=af (fun W (h:Sl .u64 W (.slice (some ⟨b2,o2,none⟩) (wd 18446744073709551616 Y).length c2) (wd 18446744073709551616 Y))=>zqi b2 o2 c2 (wd 18446744073709551616 Y) W h (by omega) (by omega))
have HX:=af hx
have HY:=af hy
clear hx hy
generalize hnx:(wd 18446744073709551616 X).length=nx at *
generalize hny:(wd 18446744073709551616 Y).length=ny at *
have NX:=af hnx
have NY:=af hny
clear hnx hny
have n0:((ny:Int)==0)=false:=beq_eq_false_iff_ne.2 (by omega)
by_cases h2:2≤ny
·(
rcases huv with ⟨rfl,rfl,rfl⟩|⟨rfl,rfl,rfl⟩
all_goals(
go_enter func193,ntmps193
go_wp2_with fail
refine (ae hcmp).mono ?_
rintro e w1 ⟨rfl,q,rfl⟩
go_wp2_with fail
refine (ae HO _ (by exact ae HY)).mono ?_
rintro e w1 ⟨rfl,hw⟩
obtain rfl:=hw.symm
clear hw
go_wp2_with fail
refine (ae HC1 _ (by exact ae HX)).mono ?_
rintro e w2 ⟨v1,rfl,hv1,hb1,ho1,g1,d1,rfl⟩
have B1:Hid (But [] w w2):=((But.refl [] _).drewN q).trans' hb1
have P1:=af (And.intro hv1 ho1)
clear hv1 hb1 ho1
go_wp2_with fail
refine (ae HC2 _ ((ae HY).ah (ae B1))).mono ?_
rintro e w3 ⟨v2,rfl,hv2,hb2,ho2,g2,d2,rfl⟩
have hap:g1<w2.heap.size:=(ae P1).1.lt (by rw[ae NX];omega) g1 0 _ _ rfl
have hap2:w2.heap.size≤g2:=(ho2 _ _ _ _ rfl).1
have A0:Hid (zkl w X Y Y (.slice (some ⟨g1,0,none⟩) nx d1) (.slice (some ⟨g2,0,none⟩) ny d2) w3) :=
 ⟨X,(ae P1).1.ah hb2,hv2,Nat.le_of_lt hle,Nat.le_refl _,rfl,(ae B1).trans' hb2,fun _=>⟨(ae P1).1.ah hb2,hv2,(ae P1).2.but (ae P1).1 hb2,ho2.mono (ae B1).size,fun b off n c b' off' n' c' e1 e2=>by
  simp only[Value.slice.injEq,Option.some.injEq,Addr.mk.injEq] at e1 e2
  obtain⟨⟨rfl,-⟩,-⟩:=e1
  obtain⟨⟨rfl,-⟩,-⟩:=e2
  omega⟩⟩
clear hv2 hb2 ho2 P1 B1 HC1 HC2 hap hap2
go_wp2_with fail
go_loopg [0,1] Y (fun k p1 p2 wr=>Hid (zkl w X Y k p1 p2 wr))
case atStart=>exact A0
case round =>(
clear A0
obtain⟨X',hs1,hs2,hYX,hXX,hg,hB,hP⟩:=ae hrel
have hl1:=av hXX
have hl2:=av hYX
have HI:=af (And.intro hs1 (And.intro hs2 (And.intro hYX (And.intro hXX (And.intro hg (And.intro hB hP))))))
rw[ae NX] at hl1
by_cases hk2:2≤(wd 18446744073709551616 gk).length
·(
have HL:=af (zin w.heap.size _ _ X' gk wr (hP hk2) hk2 hYX (by omega) hB.size)
obtain⟨a1,d1,rfl,-,-⟩:=hs1
obtain⟨a2,d2,rfl,-,-⟩:=hs2
clear hrel hg hB hP
generalize (wd 18446744073709551616 X').length=m1 at *
generalize (wd 18446744073709551616 gk).length=m2 at *
go_wp2_with fail
refine (ae HL).mono ?_
rintro e w5 ⟨v1,v2,X2,Y2,rfl,hp2,hle2,hlt2,hX2,hg2,l,hlo,hbl⟩
have R:Hid (zkl w X Y Y2 v1 v2 w5):=⟨X2,hp2.s1,hp2.s2,hle2,by omega,by rw[hg2];exact (ae HI).2.2.2.2.1,(ae HI).2.2.2.2.2.1.trans hbl (fun x hx=>.inr (hlo x hx)),fun _=>hp2⟩
clear hp2 hg2 hlo hbl
go_wp2
go_roundg Y2
case measure=>exact hlt2
case rel=>exact R)
·(
rcases Nat.eq_zero_or_pos gk with hz | hz
·(
subst hz
rw[Nat.gcd_zero_right] at hg
rw[zi] at hs2
obtain⟨a1,d1,rfl,-,-⟩:=id hs1
obtain⟨a2,d2,rfl,-,-⟩:=hs2
have R:=af (And.intro hs1 hB)
have HG:=af hg
clear hrel hg hB hP hs1 hk2 HI hl2
generalize (wd 18446744073709551616 X').length=m1 at *
go_wp2
go_ret
exact⟨_,rfl,by rw[← ae HG];exact (ae R).1,(ae R).2⟩)
·(
have hkB:gk < 18446744073709551616:=by
 rcases Nat.lt_or_ge gk 18446744073709551616 with h | h
 ·exact h
 ·exact absurd (zej gk h) hk2
rcases zgi hs2 hkB with ⟨rfl,-⟩|⟨-,b,off,c,rfl,hcell⟩
·omega
have HBY:=af (zhm _ X' gk wr hs1 (by omega) hz hkB)
have hmB:X' % gk < 18446744073709551616:=Nat.lt_trans (Nat.mod_lt _ hz) hkB
have GW:=af (fun W=>j4 gk (X' % gk) W hkB hmB)
have hgB:Nat.gcd gk (X' % gk) < 18446744073709551616:=Nat.lt_of_le_of_lt (Nat.gcd_le_left _ hz) hkB
have HG:Hid (Nat.gcd gk (X' % gk)=Nat.gcd X Y):=by show _=_;rw[zrq];exact hg
have HOF:=af (fun W=>jh (Nat.gcd gk (X' % gk)) hgB W)
obtain⟨a1,d1,rfl,-,-⟩:=id hs1
have HB:=af hB
clear hrel hg hB hP hs1 hs2 HI hl2
generalize (wd 18446744073709551616 X').length=m1 at *
go_wp2_with fail
refine (ae HBY).mono ?_
rintro e w5 ⟨v5,rfl,-,hb5⟩
have hc5:=hb5.ag hcell (by simp)
have HB5:=af hb5
clear hb5 hcell
go_wp2_with fail
refine (ae GW _).mono ?_
rintro e w6 ⟨rfl,q6,rfl⟩
go_wp2_with fail
refine (ae HOF _).mono ?_
rintro e w7 ⟨v7,rfl,hv7,hb7,-⟩
rw[ae HG] at hv7
have R:=af (And.intro hv7 ((ae HB).trans' ((ae HB5).trans' (((But.refl [] _).drewN q6).trans' hb7))))
clear hv7 hb7
go_wp2
go_ret
exact⟨v7,rfl,(ae R).1,(ae R).2⟩)))))
·(
rcases huv with ⟨rfl,rfl,rfl⟩|⟨rfl,rfl,rfl⟩
all_goals(
go_enter func193,ntmps193
go_wp2_with fail
refine (ae hcmp).mono ?_
rintro e w1 ⟨rfl,q,rfl⟩
go_wp2_with fail
refine (ae HO _ (by exact ae HY)).mono ?_
rintro e w1 ⟨rfl,hw⟩
obtain rfl:=hw.symm
clear hw
have A0:Hid (zkl w X Y Y (.slice (some ⟨b1,o1,none⟩) nx c1) (.slice (some ⟨b2,o2,none⟩) ny c2) (w.drewN q)) :=
 ⟨X,ae HX,ae HY,Nat.le_of_lt hle,Nat.le_refl _,rfl,(But.refl [] _).drewN q,fun h=>by rw[ae NY] at h;omega⟩
go_wp2_with fail
go_loopg [0,1] Y (fun k p1 p2 wr=>Hid (zkl w X Y k p1 p2 wr))
case atStart=>exact A0
case round =>(
clear A0
obtain⟨X',hs1,hs2,hYX,hXX,hg,hB,hP⟩:=ae hrel
have hl1:=av hXX
have hl2:=av hYX
have HI:=af (And.intro hs1 (And.intro hs2 (And.intro hYX (And.intro hXX (And.intro hg (And.intro hB hP))))))
rw[ae NX] at hl1
by_cases hk2:2≤(wd 18446744073709551616 gk).length
·(
have HL:=af (zin w.heap.size _ _ X' gk wr (hP hk2) hk2 hYX (by omega) hB.size)
obtain⟨a1,d1,rfl,-,-⟩:=hs1
obtain⟨a2,d2,rfl,-,-⟩:=hs2
clear hrel hg hB hP
generalize (wd 18446744073709551616 X').length=m1 at *
generalize (wd 18446744073709551616 gk).length=m2 at *
go_wp2_with fail
refine (ae HL).mono ?_
rintro e w5 ⟨v1,v2,X2,Y2,rfl,hp2,hle2,hlt2,hX2,hg2,l,hlo,hbl⟩
have R:Hid (zkl w X Y Y2 v1 v2 w5):=⟨X2,hp2.s1,hp2.s2,hle2,by omega,by rw[hg2];exact (ae HI).2.2.2.2.1,(ae HI).2.2.2.2.2.1.trans hbl (fun x hx=>.inr (hlo x hx)),fun _=>hp2⟩
clear hp2 hg2 hlo hbl
go_wp2
go_roundg Y2
case measure=>exact hlt2
case rel=>exact R)
·(
rcases Nat.eq_zero_or_pos gk with hz | hz
·(
subst hz
rw[Nat.gcd_zero_right] at hg
rw[zi] at hs2
obtain⟨a1,d1,rfl,-,-⟩:=id hs1
obtain⟨a2,d2,rfl,-,-⟩:=hs2
have R:=af (And.intro hs1 hB)
have HG:=af hg
clear hrel hg hB hP hs1 hk2 HI hl2
generalize (wd 18446744073709551616 X').length=m1 at *
go_wp2
go_ret
exact⟨_,rfl,by rw[← ae HG];exact (ae R).1,(ae R).2⟩)
·(
have hkB:gk < 18446744073709551616:=by
 rcases Nat.lt_or_ge gk 18446744073709551616 with h | h
 ·exact h
 ·exact absurd (zej gk h) hk2
rcases zgi hs2 hkB with ⟨rfl,-⟩|⟨-,b,off,c,rfl,hcell⟩
·omega
have HBY:=af (zhm _ X' gk wr hs1 (by omega) hz hkB)
have hmB:X' % gk < 18446744073709551616:=Nat.lt_trans (Nat.mod_lt _ hz) hkB
have GW:=af (fun W=>j4 gk (X' % gk) W hkB hmB)
have hgB:Nat.gcd gk (X' % gk) < 18446744073709551616:=Nat.lt_of_le_of_lt (Nat.gcd_le_left _ hz) hkB
have HG:Hid (Nat.gcd gk (X' % gk)=Nat.gcd X Y):=by show _=_;rw[zrq];exact hg
have HOF:=af (fun W=>jh (Nat.gcd gk (X' % gk)) hgB W)
obtain⟨a1,d1,rfl,-,-⟩:=id hs1
have HB:=af hB
clear hrel hg hB hP hs1 hs2 HI hl2
generalize (wd 18446744073709551616 X').length=m1 at *
go_wp2_with fail
refine (ae HBY).mono ?_
rintro e w5 ⟨v5,rfl,-,hb5⟩
have hc5:=hb5.ag hcell (by simp)
have HB5:=af hb5
clear hb5 hcell
go_wp2_with fail
refine (ae GW _).mono ?_
rintro e w6 ⟨rfl,q6,rfl⟩
go_wp2_with fail
refine (ae HOF _).mono ?_
rintro e w7 ⟨v7,rfl,hv7,hb7,-⟩
rw[ae HG] at hv7
have R:=af (And.intro hv7 ((ae HB).trans' ((ae HB5).trans' (((But.refl [] _).drewN q6).trans' hb7))))
clear hv7 hb7
go_wp2
go_ret
exact⟨v7,rfl,(ae R).1,(ae R).2⟩))))))
theorem zcn (vx vy:Value) (X Y:Nat) (w:World) (hx:Sl .u64 w vx (wd 18446744073709551616 X)) (hy:Sl .u64 w vy (wd 18446744073709551616 Y)) (hlx:(wd 18446744073709551616 X).length≤1000000) (hly:(wd 18446744073709551616 Y).length≤1000000) :
  Calls prog 193 #[vx,vy] w fun e w'=>∃ v',e=.returned v'∧Sl .u64 w' v' (wd 18446744073709551616 (Nat.gcd X Y))∧But [] w w':=by(
have hcmp:=vv vx vy X Y w hx hy (by omega) (by omega)
have HX:=af hx
have HY:=af hy
rcases zcu X Y with ⟨hlt,hc⟩|⟨heq,hc⟩|⟨hgt,hc⟩
·(
rw[hc] at hcmp
rcases Nat.lt_or_ge 1 X with h1 | h1
·have:=zkz vy vx Y X w hy hx hlt h1 hly vx vy (-1) hcmp (.inr ⟨rfl,rfl,rfl⟩)
 rw[Nat.gcd_comm] at this
 exact this
·(
have HC:=af hcmp
have HO:=af (fun W (h:Sl .u64 W vx (wd 18446744073709551616 X))=>mo vx X W h (by omega) true)
rcases Nat.eq_zero_or_pos X with h0 | h0
·(
subst h0
rw[Nat.gcd_zero_left]
rw[zi] at hx
obtain⟨a1,c1,rfl,-,-⟩:=hx
obtain⟨a2,c2,rfl,-,-⟩:=hy
clear hcmp hc HO
generalize (wd 18446744073709551616 Y).length=ny at *
go_enter func193,ntmps193
go_wp2_with fail
refine (ae HC).mono ?_
rintro e w1 ⟨rfl,q,rfl⟩
go_wp2
go_ret
exact⟨_,rfl,ae HY,(But.refl _ _).drewN q⟩)
·(
have hX1:X=1:=by omega
subst hX1
rw[Nat.gcd_one_left]
have hl1:(wd 18446744073709551616 1).length=1:=by rw[zei 1 (by omega) (by omega)];rfl
have HO1:=af (fun W h=>ae HO W h (by show true=_;rfl))
obtain⟨a1,c1,rfl,-,-⟩:=hx
obtain⟨a2,c2,rfl,-,-⟩:=hy
clear hcmp hc HO
rw[hl1] at *
generalize (wd 18446744073709551616 Y).length=ny at *
clear hl1
go_enter func193,ntmps193
go_wp2_with fail
refine (ae HC).mono ?_
rintro e w1 ⟨rfl,q,rfl⟩
go_wp2_with fail
refine (ae HO1 _ (by exact ae HX)).mono ?_
rintro e w1 ⟨rfl,hw⟩
obtain rfl:=hw.symm
clear hw
go_wp2
go_ret
exact⟨_,rfl,ae HX,(But.refl _ _).drewN q⟩)))
·(
rw[hc] at hcmp
have HC:=af hcmp
subst heq
rw[Nat.gcd_self]
obtain⟨a1,c1,rfl,-,-⟩:=hx
obtain⟨a2,c2,rfl,-,-⟩:=hy
clear hcmp hc
generalize (wd 18446744073709551616 X).length=nx at *
go_enter func193,ntmps193
go_wp2_with fail
refine (ae HC).mono ?_
rintro e w1 ⟨rfl,q,rfl⟩
go_wp2
go_ret
exact⟨_,rfl,ae HX,(But.refl _ _).drewN q⟩)
·(
rw[hc] at hcmp
rcases Nat.lt_or_ge 1 Y with h1 | h1
·exact zkz vx vy X Y w hx hy hgt h1 hlx vx vy 1 hcmp (.inl ⟨rfl,rfl,rfl⟩)
·(
have HC:=af hcmp
have HO:=af (fun W (h:Sl .u64 W vy (wd 18446744073709551616 Y))=>mo vy Y W h (by omega) true)
rcases Nat.eq_zero_or_pos Y with h0 | h0
·(
subst h0
rw[Nat.gcd_zero_right]
rw[zi] at hy
obtain⟨a1,c1,rfl,-,-⟩:=hx
obtain⟨a2,c2,rfl,-,-⟩:=hy
clear hcmp hc HO
generalize (wd 18446744073709551616 X).length=nx at *
go_enter func193,ntmps193
go_wp2_with fail
refine (ae HC).mono ?_
rintro e w1 ⟨rfl,q,rfl⟩
go_wp2
go_ret
exact⟨_,rfl,ae HX,(But.refl _ _).drewN q⟩)
·(
have hX1:Y=1:=by omega
subst hX1
rw[Nat.gcd_one_right]
have hl1:(wd 18446744073709551616 1).length=1:=by rw[zei 1 (by omega) (by omega)];rfl
have HO1:=af (fun W h=>ae HO W h (by show true=_;rfl))
obtain⟨a1,c1,rfl,-,-⟩:=hx
obtain⟨a2,c2,rfl,-,-⟩:=hy
clear hcmp hc HO
rw[hl1] at *
generalize (wd 18446744073709551616 X).length=nx at *
clear hl1
go_enter func193,ntmps193
go_wp2_with fail
refine (ae HC).mono ?_
rintro e w1 ⟨rfl,q,rfl⟩
go_wp2_with fail
refine (ae HO1 _ (by exact ae HY)).mono ?_
rintro e w1 ⟨rfl,hw⟩
obtain rfl:=hw.symm
clear hw
go_wp2
go_ret
exact⟨_,rfl,ae HY,(But.refl _ _).drewN q⟩))))
theorem zoh (s t:Bool) (v1 v2:Value) (m n:Nat) (w:World) (h1:Sl .u64 w v1 (wd 18446744073709551616 m)) (h2:Sl .u64 w v2 (wd 18446744073709551616 n)) (hl1:(wd 18446744073709551616 m).length<1073741824) (hl2:(wd 18446744073709551616 n).length<1073741824) :
  Calls prog 201 #[.bool s,v1,.bool t,v2] w fun e w'=>∃ (r:Bool) (v:Value) (M:Nat),e=.returned (.tuple #[.bool r,v])∧Sl .u64 w' v (wd 18446744073709551616 M)∧sgn s m+sgn t n=sgn r M∧M≤m+n∧But [] w w':=by(
have HA:=af (rf v1 v2 m n w h1 h2 hl1 hl2)
have HC:=af (vv v1 v2 m n w h1 h2 (by omega) (by omega))
have H1:=af h1
have H2:=af h2
have HS1:=af (fun (W:World) (a:Sl .u64 W v1 (wd 18446744073709551616 m)) (b:Sl .u64 W v2 (wd 18446744073709551616 n)) (h:n≤m)=>zcm v1 v2 m n W a b hl1 h)
have HS2:=af (fun (W:World) (a:Sl .u64 W v1 (wd 18446744073709551616 m)) (b:Sl .u64 W v2 (wd 18446744073709551616 n)) (h:m≤n)=>zcm v2 v1 n m W b a hl2 h)
obtain⟨a1,c1,rfl,-,-⟩:=h1
obtain⟨a2,c2,rfl,-,-⟩:=h2
generalize (wd 18446744073709551616 m).length=l1 at *
generalize (wd 18446744073709551616 n).length=l2 at *
by_cases hst:s=t
·(
subst hst
have hb:(s==s)=true:=by simp
have HE:Hid (sgn s m+sgn s n=sgn s (m+n)):=by show _=_;cases s <;> simp[sgn] <;> omega
go_enter func201,ntmps201
go_wp2_with fail
refine (ae HA).mono ?_
rintro e w1 ⟨v,rfl,hv,hb1⟩
have R:=af (And.intro hv hb1)
clear hv hb1
go_wp2
go_ret2
exact⟨s,v,m+n,rfl,(ae R).1,ae HE,Nat.le_refl _,(ae R).2⟩)
·(
have hb:(s==t)=false:=by simp[hst]
have ht:t=!s:=by cases s <;> cases t <;> simp_all
rcases Nat.lt_or_ge m n with hlt | hge
·(
rw[zaj hlt] at HC
have HE:Hid (sgn s m+sgn t n=sgn t (n-m)):=by
 show _=_
 rw[ht]
 cases s <;> simp[sgn] <;> omega
clear ht
go_enter func201,ntmps201
go_wp2_with fail
refine (ae HC).mono ?_
rintro e w1 ⟨rfl,q,rfl⟩
go_wp2_with fail
refine (ae HS2 _ (by exact ae H1) (by exact ae H2) (Nat.le_of_lt hlt)).mono ?_
rintro e w2 ⟨v,rfl,hv,hb1⟩
have R:=af (And.intro hv (((But.refl [] _).drewN q).trans' hb1))
clear hv hb1
go_wp2
go_ret2
exact⟨t,v,n-m,rfl,(ae R).1,ae HE,by omega,(ae R).2⟩)
·(
have hc0:=zbx hge
have HE:Hid (sgn s m+sgn t n=sgn s (m-n)):=by
 show _=_
 rw[ht]
 cases s <;> simp[sgn] <;> omega
clear ht
generalize zq m n=r at *
have hr:decide (0≤r)=true:=by simp;omega
go_enter func201,ntmps201
go_wp2_with fail
refine (ae HC).mono ?_
rintro e w1 ⟨rfl,q,rfl⟩
go_wp2_with fail
refine (ae HS1 _ (by exact ae H1) (by exact ae H2) hge).mono ?_
rintro e w2 ⟨v,rfl,hv,hb1⟩
have R:=af (And.intro hv (((But.refl [] _).drewN q).trans' hb1))
clear hv hb1
go_wp2
go_ret2
exact⟨s,v,m-n,rfl,(ae R).1,ae HE,by omega,(ae R).2⟩)))
theorem om (v:Value) (f:Rat) (w:World) (hf:aq w v f) :
  Calls prog 153 #[v] w fun e w'=>e=.returned (.int .i64 f.num.sign)∧But [] w w':=by(
rcases hf with ⟨hp,hq,rfl⟩|⟨hbig,b,v1,v2,rfl,-,-,-,-⟩
·(
by_cases hn:f.num<0
·(
have e:f.num.sign=-1:=Int.sign_eq_neg_one_of_neg hn
rw[e]
have hd:decide (f.num<0)=true:=decide_eq_true hn
rw[hd]
generalize f.num.natAbs=p at *
generalize f.den=q at *
clear hn hd e
go_enter func153,ntmps153
go_wp2
go_ret
exact⟨rfl,(But.refl _ _).alloc _⟩)
·(
have hd:decide (f.num<0)=false:=decide_eq_false hn
rw[hd]
rcases Nat.eq_zero_or_pos f.num.natAbs with h0 | h0
·(
have e:f.num.sign=0:=by rw[Int.sign_eq_zero_iff_zero];omega
rw[e,h0]
generalize f.den=q at *
clear hn hd e h0 hp
go_enter func153,ntmps153
go_wp2
go_ret
exact⟨rfl,(But.refl _ _).alloc _⟩)
·(
have e:f.num.sign=1:=Int.sign_eq_one_of_pos (by omega)
rw[e]
generalize f.num.natAbs=p at *
generalize f.den=q at *
have n0:((p:Int)==0)=false:=beq_eq_false_iff_ne.2 (by omega)
clear hn hd e
go_enter func153,ntmps153
go_wp2
go_ret
exact⟨rfl,(But.refl _ _).alloc _⟩)))
·(
have hn0:f.num≠0:=by
 intro e0
 have e1:=f.reduced
 rw[e0,Int.natAbs_zero,Nat.coprime_zero_left] at e1
 rw[e0] at hbig
 simp at hbig
 omega
by_cases hn:f.num<0
·(
have e:f.num.sign=-1:=Int.sign_eq_neg_one_of_neg hn
have hd:decide (f.num<0)=true:=decide_eq_true hn
rw[e,hd]
clear hn hd e hbig hn0
go_enter func153,ntmps153
go_wp2
go_ret
exact⟨rfl,(But.refl _ _).alloc _⟩)
·(
have e:f.num.sign=1:=Int.sign_eq_one_of_pos (by omega)
have hd:decide (f.num<0)=false:=decide_eq_false hn
rw[e,hd]
clear hn hd e hbig hn0
go_enter func153,ntmps153
go_wp2
go_ret
exact⟨rfl,(But.refl _ _).alloc _⟩)))
end Go.Proofs.YtpmjeclpkahkmaaGreatDoor
