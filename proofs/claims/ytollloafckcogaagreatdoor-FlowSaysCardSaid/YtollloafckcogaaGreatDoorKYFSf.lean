/- FlowSays: the law, where rates or paymen -/
import Derived.Test.YtollloafckcogaaGreatDoorKYFLc
import Derived.Test.YtollloafckcogaaGreatDoorKYFSb
import Derived.Test.YtollloafckcogaaGreatDoorKYFSc
namespace Go.Proofs.YtollloafckcogaaGreatDoor
open Go.RowKit
set_option maxHeartbeats 16000000
set_option maxRecDepth 100000
set_option linter.unusedVariables false
theorem flowSays_many (ap ar:Option Addr) (np cp nr cr:Nat) (w:World) (h:60<np∨np≤60∧(60<nr∧nr≤120∨130<nr)) :
  Calls Tryz.prog 4 #[.slice ap np cp,.slice ar nr cr] w fun e w'=>e=.returned (.bool true)∧But [] w w':=by
 go_enter Tryz.func4,Tryz.ntmps4
 have bw:But [] w w:=But.refl _ _
 rcases h with h | ⟨h,⟨h1,h2⟩ | h1⟩
 ·go_wp2
  go_ret
  exact ⟨rfl,bw⟩
 ·go_wp2
  go_ret
  exact ⟨rfl,bw⟩
 ·have h3:60<nr:=by omega
  have h4:¬ nr≤120:=by omega
  go_wp2
  go_ret
  exact ⟨rfl,bw⟩
theorem flowSays_bad (np cp nr cr:Nat) (ap ar:Option Addr) (ps rs:List Rat) (z:Int) (hz:(z==0)=false) (zd:Int) (ee ev:Value) (w:World) (hnp:np≤60) (hnr:nr≤60∨120<nr∧nr≤130) (DP:World→Value→Prop) (hDP:∀ {W W':World} {u:Value},DP W u→But [] W W'→DP W' u) (DR:World→Value→Prop) (hDR:∀ {W W':World} {u:Value},DR W u→But [] W W'→DR W' u)
  (FP:∀ W,But [] w W→Calls Tryz.prog 14 #[.slice ap np cp] W fun e w'=>∃ v',e=.returned v'∧FracsAt w' v' ps∧But [] W w')
  (FR:∀ W,But [] w W→Calls Tryz.prog 14 #[.slice ar nr cr] W fun e w'=>∃ v',e=.returned v'∧FracsAt w' v' rs∧But [] W w')
  (LP:∀ W,But [] w W→Calls Tryz.prog 16 #[.slice ap np cp] W fun e w'=>∃ v',e=.returned v'∧RatsAt w' v' ps∧But [] W w')
  (LR:∀ W,But [] w W→Calls Tryz.prog 16 #[.slice ar nr cr] W fun e w'=>∃ v',e=.returned v'∧RatsAt w' v' rs∧But [] W w')
  (DC:∀ W vr,FracsAt W vr rs→Calls Tryz.prog 13 #[vr] W fun e w'=>∃ v,e=.returned (.tuple #[v,ee])∧DP w' v∧But [] W w')
  (RD:∀ W vr,RatsAt W vr rs→Calls Tryz.prog 15 #[vr] W fun e w'=>∃ u,e=.returned (.tuple #[u,.int .i64 zd])∧DR w' u∧But [] W w')
  (LI:∀ W v u,But [] w W→DP W v→DR W u→Calls Tryz.prog 17 #[v,ee,u,.int .i64 zd] W fun e w'=>e=.returned (.bool true)∧But [] W w')
  (VA:∀ W vp vr,FracsAt W vp ps→FracsAt W vr rs→Calls Tryz.prog 18 #[vp,vr] W fun e w'=>∃ v,e=.returned (.tuple #[v,ev])∧FracAt w' v 0∧But [] W w')
  (GA:∀ W vp vr,FracsAt W vp ps→FracsAt W vr rs→Calls Tryz.prog 19 #[vp,vr] W fun e w'=>∃ v,e=.returned (.tuple #[v,ev])∧FracAt w' v 0∧But [] W w')
  (RV:∀ W vp vr,RatsAt W vp ps→RatsAt W vr rs→Calls Tryz.prog 20 #[vp,vr] W fun e w'=>e=.returned (.tuple #[.pointer none,.int .i64 z])∧But [] W w')
  (I0:∀ W,Calls Tryz.prog 21 #[.int .i64 0] W fun e w'=>∃ zb,e=.returned (.pointer (some ⟨zb,0,none⟩))∧RatIs w' zb (((0:Int):Rat))∧But [] W w')
  (ON:∀ W v x,But [] w W→FracAt W v 0→Calls Tryz.prog 23 #[v,ev,x,.int .i64 z] W fun e w'=>e=.returned (.bool true)∧But [] W w') :
  Calls Tryz.prog 4 #[.slice ap np cp,.slice ar nr cr] w fun e w'=>e=.returned (.bool true)∧But [] w w':=by
 have FPH:=hide FP
 have FRH:=hide FR
 have LPH:=hide LP
 have LRH:=hide LR
 have DCH:=hide DC
 have RDH:=hide RD
 have LIH:=hide LI
 have VAH:=hide VA
 have GAH:=hide GA
 have RVH:=hide RV
 have I0H:=hide I0
 have ONH:=hide ON
 clear FP FR LP LR DC RD LI VA GA RV I0 ON
 have guard:Hid (nr≤60∨120<nr∧nr≤130):=hnr
 go_enter Tryz.func4,Tryz.ntmps4
 have G0:Hid (But [] w w):=But.refl _ _
 clear guard
 rcases hnr with h | ⟨h,h2⟩
 ·go_wp2_with fail
  refine (unhide FRH w (unhide G0)).mono ?_
  rintro e w1 ⟨v1,rfl,h1,hb1⟩
  have D1:=hide (unhide DCH w1 v1 h1)
  have B1:=hide ((unhide G0).trans' hb1)
  clear h1 hb1 G0 DCH
  go_wp2_with fail
  refine (unhide D1).mono ?_
  rintro e w2 ⟨vd,rfl,hd,hb2⟩
  have B2:=hide ((unhide B1).trans' hb2)
  have P2:=hide hd
  clear hd hb2 B1 D1
  go_wp2_with fail
  refine (unhide LRH w2 (unhide B2)).mono ?_
  rintro e w3 ⟨u1,rfl,h1,hb3⟩
  have D3:=hide (unhide RDH w3 u1 h1)
  have B3:=hide ((unhide B2).trans' hb3)
  have P3:=hide (hDP (unhide P2) hb3)
  clear h1 hb3 B2 P2 RDH
  go_wp2_with fail
  refine (unhide D3).mono ?_
  rintro e w4 ⟨ud,rfl,hu,hb4⟩
  have B4:=hide ((unhide B3).trans' hb4)
  have L4:=hide (unhide LIH w4 vd ud (unhide B4) (hDP (unhide P3) hb4) hu)
  have U4:=hide hu
  clear hu hb4 B3 P3 LIH D3
  go_wp2_with fail
  refine (unhide L4).mono ?_
  rintro e w5 ⟨rfl,hb5⟩
  have B5:=hide ((unhide B4).trans' hb5)
  have U5:=hide (hDR (unhide U4) hb5)
  clear hb5 B4 U4 L4
  go_wp2_with fail
  refine (unhide FPH w5 (unhide B5)).mono ?_
  rintro e w6 ⟨v6,rfl,h6,hb6⟩
  have B6:=hide ((unhide B5).trans' hb6)
  have U6:=hide (hDR (unhide U5) hb6)
  have H6:=hide h6
  clear h6 hb6 B5 U5
  go_wp2_with fail
  refine (unhide FRH w6 (unhide B6)).mono ?_
  rintro e w7 ⟨v7,rfl,h7,hb7⟩
  have B7:=hide ((unhide B6).trans' hb7)
  have U7:=hide (hDR (unhide U6) hb7)
  have V7:=hide (unhide VAH w7 v6 v7 ((unhide H6).but hb7) h7)
  clear h7 hb7 B6 U6 H6 VAH
  go_wp2_with fail
  refine (unhide V7).mono ?_
  rintro e w8 ⟨vv,rfl,hv8,hb8⟩
  obtain ⟨x5,y5,p5,rfl,-⟩:=hv8.agg
  generalize decide ((0:Rat).num<0)=s5 at *
  obtain ⟨V,hV⟩:∃ V,V=w8.alloc (.cells #[.bool s5,.int .u64 x5,.int .u64 y5,.pointer p5] 27):=⟨_,rfl⟩
  have bV:But [] w8 V:=by rw [hV];exact (But.refl _ _).alloc _
  obtain ⟨g9,hg9⟩:∃ g,g=w8.heap.size:=⟨_,rfl⟩
  have K0:Hid (P4 V g9 s5 x5 y5 p5):=by show P4 _ _ _ _ _ _;rw [hV,hg9];exact ⟨by simp,by simp,by simp,by simp⟩
  have B8:=hide (((unhide B7).trans' hb8).trans' bV)
  have U8:=hide (hDR (unhide U7) (hb8.trans' bV))
  have F8:=hide (hv8.but bV)
  have HV:=hide hV
  clear hv8 hb8 bV hV B7 U7 V7
  go_wp2_with fail
  rw [← unhide HV,← hg9]
  clear HV hg9
  refine (unhide FPH V (unhide B8)).mono ?_
  rintro e w9 ⟨v9,rfl,h9,hb9⟩
  have B9:=hide ((unhide B8).trans' hb9)
  have U9:=hide (hDR (unhide U8) hb9)
  have F9:=hide ((unhide F8).but hb9)
  have K9:=hide ((unhide K0).but hb9 (by simp))
  have H9:=hide h9
  clear h9 hb9 B8 U8 F8 K0
  go_wp2_with fail
  refine (unhide FRH w9 (unhide B9)).mono ?_
  rintro e wa ⟨va,rfl,ha,hba⟩
  have Ba:=hide ((unhide B9).trans' hba)
  have Ua:=hide (hDR (unhide U9) hba)
  have Fa:=hide ((unhide F9).but hba)
  have Ka:=hide ((unhide K9).but hba (by simp))
  have Va:=hide (unhide GAH wa v9 va ((unhide H9).but hba) ha)
  clear ha hba B9 U9 F9 K9 H9 GAH
  go_wp2_with fail
  refine (unhide Va).mono ?_
  rintro e wb ⟨vb,rfl,hvb,hbb⟩
  obtain ⟨x6,y6,p6,rfl,-⟩:=hvb.agg
  generalize decide ((0:Rat).num<0)=s6 at *
  obtain ⟨X,hX⟩:∃ X,X=wb.alloc (.cells #[.bool s6,.int .u64 x6,.int .u64 y6,.pointer p6] 27):=⟨_,rfl⟩
  have bX:But [] wb X:=by rw [hX];exact (But.refl _ _).alloc _
  obtain ⟨g10,hg10⟩:∃ g,g=wb.heap.size:=⟨_,rfl⟩
  have J0:Hid (P4 X g10 s6 x6 y6 p6):=by show P4 _ _ _ _ _ _;rw [hX,hg10];exact ⟨by simp,by simp,by simp,by simp⟩
  have Bb:=hide (((unhide Ba).trans' hbb).trans' bX)
  have Ub:=hide (hDR (unhide Ua) (hbb.trans' bX))
  have Fb:=hide ((unhide Fa).but (hbb.trans' bX))
  have Kb:=hide ((unhide Ka).but (hbb.trans' bX) (by simp))
  have Gb:=hide (hvb.but bX)
  have HX:=hide hX
  clear hvb hbb bX hX Ba Ua Fa Ka Va
  go_wp2_with fail
  rw [← unhide HX,← hg10]
  clear HX hg10
  refine (unhide LPH X (unhide Bb)).mono ?_
  rintro e wc ⟨vc,rfl,hc,hbc⟩
  have Bc:=hide ((unhide Bb).trans' hbc)
  have Uc:=hide (hDR (unhide Ub) hbc)
  have Fc:=hide (And.intro ((unhide Fb).but hbc) ((unhide Gb).but hbc))
  have Kc:=hide (And.intro ((unhide Kb).but hbc (by simp)) ((unhide J0).but hbc (by simp)))
  have Hc:=hide hc
  clear hc hbc Bb Ub Fb Gb Kb J0
  go_wp2_with fail
  refine (unhide LRH wc (unhide Bc)).mono ?_
  rintro e wd ⟨vd',rfl,hd,hbd⟩
  have Bd:=hide ((unhide Bc).trans' hbd)
  have Ud:=hide (hDR (unhide Uc) hbd)
  have Fd:=hide (And.intro ((unhide Fc).1.but hbd) ((unhide Fc).2.but hbd))
  have Kd:=hide (And.intro ((unhide Kc).1.but hbd (by simp)) ((unhide Kc).2.but hbd (by simp)))
  have Rd:=hide (unhide RVH wd vc vd' ((unhide Hc).but hbd) hd)
  clear hd hbd Bc Uc Fc Kc Hc RVH
  go_wp2_with fail
  refine (unhide Rd).mono ?_
  rintro e we ⟨rfl,hbe⟩
  have Be:=hide ((unhide Bd).trans' hbe)
  have Ue:=hide (hDR (unhide Ud) hbe)
  have Fe:=hide (And.intro ((unhide Fd).1.but hbe) ((unhide Fd).2.but hbe))
  have Ke:=hide (And.intro ((unhide Kd).1.but hbe (by simp)) ((unhide Kd).2.but hbe (by simp)))
  
  clear hbe Bd Ud Fd Kd Rd
  go_wp2_with fail
  refine (unhide I0H we).mono ?_
  rintro e wf ⟨yb,rfl,hy,hbf⟩
  have Bf:=hide ((unhide Be).trans' hbf)
  have Ff:=hide (And.intro ((unhide Fe).1.but hbf) ((unhide Fe).2.but hbf))
  have kf:=(unhide Ke).1.but hbf (by simp)
  have kg:=(unhide Ke).2.but hbf (by simp)
  have O1:=hide (unhide ONH wf _ (.pointer none) (unhide Bf) (unhide Ff).1)
  clear hy hbf Be Ue Fe Ke
  obtain ⟨q0,q1,q2,q3⟩:=kf
  obtain ⟨r0',r1,r2,r3⟩:=kg
  go_wp2_with fail
  refine (unhide O1).mono ?_
  rintro e wh ⟨rfl,hbh⟩
  have Bh:=hide ((unhide Bf).trans' hbh)
  have O2:=hide (unhide ONH wh _ (.pointer (some ⟨yb,0,none⟩)) (unhide Bh) ((unhide Ff).2.but hbh))
  replace r0':=hbh.cell_some r0' (by simp)
  replace r1:=hbh.cell_some r1 (by simp)
  replace r2:=hbh.cell_some r2 (by simp)
  replace r3:=hbh.cell_some r3 (by simp)
  clear hbh Bf Ff O1 q0 q1 q2 q3
  go_wp2_with fail
  refine (unhide O2).mono ?_
  rintro e wi ⟨rfl,hbi⟩
  have Bi:=hide ((unhide Bh).trans' hbi)
  clear hbi Bh O2
  go_wp2
  go_ret
  exact ⟨rfl,unhide Bi⟩
 ·have h3:60<nr:=by omega
  go_wp2_with fail
  refine (unhide FRH w (unhide G0)).mono ?_
  rintro e w1 ⟨v1,rfl,h1,hb1⟩
  have D1:=hide (unhide DCH w1 v1 h1)
  have B1:=hide ((unhide G0).trans' hb1)
  clear h1 hb1 G0 DCH
  go_wp2_with fail
  refine (unhide D1).mono ?_
  rintro e w2 ⟨vd,rfl,hd,hb2⟩
  have B2:=hide ((unhide B1).trans' hb2)
  have P2:=hide hd
  clear hd hb2 B1 D1
  go_wp2_with fail
  refine (unhide LRH w2 (unhide B2)).mono ?_
  rintro e w3 ⟨u1,rfl,h1,hb3⟩
  have D3:=hide (unhide RDH w3 u1 h1)
  have B3:=hide ((unhide B2).trans' hb3)
  have P3:=hide (hDP (unhide P2) hb3)
  clear h1 hb3 B2 P2 RDH
  go_wp2_with fail
  refine (unhide D3).mono ?_
  rintro e w4 ⟨ud,rfl,hu,hb4⟩
  have B4:=hide ((unhide B3).trans' hb4)
  have L4:=hide (unhide LIH w4 vd ud (unhide B4) (hDP (unhide P3) hb4) hu)
  have U4:=hide hu
  clear hu hb4 B3 P3 LIH D3
  go_wp2_with fail
  refine (unhide L4).mono ?_
  rintro e w5 ⟨rfl,hb5⟩
  have B5:=hide ((unhide B4).trans' hb5)
  have U5:=hide (hDR (unhide U4) hb5)
  clear hb5 B4 U4 L4
  go_wp2_with fail
  refine (unhide FPH w5 (unhide B5)).mono ?_
  rintro e w6 ⟨v6,rfl,h6,hb6⟩
  have B6:=hide ((unhide B5).trans' hb6)
  have U6:=hide (hDR (unhide U5) hb6)
  have H6:=hide h6
  clear h6 hb6 B5 U5
  go_wp2_with fail
  refine (unhide FRH w6 (unhide B6)).mono ?_
  rintro e w7 ⟨v7,rfl,h7,hb7⟩
  have B7:=hide ((unhide B6).trans' hb7)
  have U7:=hide (hDR (unhide U6) hb7)
  have V7:=hide (unhide VAH w7 v6 v7 ((unhide H6).but hb7) h7)
  clear h7 hb7 B6 U6 H6 VAH
  go_wp2_with fail
  refine (unhide V7).mono ?_
  rintro e w8 ⟨vv,rfl,hv8,hb8⟩
  obtain ⟨x5,y5,p5,rfl,-⟩:=hv8.agg
  generalize decide ((0:Rat).num<0)=s5 at *
  obtain ⟨V,hV⟩:∃ V,V=w8.alloc (.cells #[.bool s5,.int .u64 x5,.int .u64 y5,.pointer p5] 27):=⟨_,rfl⟩
  have bV:But [] w8 V:=by rw [hV];exact (But.refl _ _).alloc _
  obtain ⟨g9,hg9⟩:∃ g,g=w8.heap.size:=⟨_,rfl⟩
  have K0:Hid (P4 V g9 s5 x5 y5 p5):=by show P4 _ _ _ _ _ _;rw [hV,hg9];exact ⟨by simp,by simp,by simp,by simp⟩
  have B8:=hide (((unhide B7).trans' hb8).trans' bV)
  have U8:=hide (hDR (unhide U7) (hb8.trans' bV))
  have F8:=hide (hv8.but bV)
  have HV:=hide hV
  clear hv8 hb8 bV hV B7 U7 V7
  go_wp2_with fail
  rw [← unhide HV,← hg9]
  clear HV hg9
  refine (unhide FPH V (unhide B8)).mono ?_
  rintro e w9 ⟨v9,rfl,h9,hb9⟩
  have B9:=hide ((unhide B8).trans' hb9)
  have U9:=hide (hDR (unhide U8) hb9)
  have F9:=hide ((unhide F8).but hb9)
  have K9:=hide ((unhide K0).but hb9 (by simp))
  have H9:=hide h9
  clear h9 hb9 B8 U8 F8 K0
  go_wp2_with fail
  refine (unhide FRH w9 (unhide B9)).mono ?_
  rintro e wa ⟨va,rfl,ha,hba⟩
  have Ba:=hide ((unhide B9).trans' hba)
  have Ua:=hide (hDR (unhide U9) hba)
  have Fa:=hide ((unhide F9).but hba)
  have Ka:=hide ((unhide K9).but hba (by simp))
  have Va:=hide (unhide GAH wa v9 va ((unhide H9).but hba) ha)
  clear ha hba B9 U9 F9 K9 H9 GAH
  go_wp2_with fail
  refine (unhide Va).mono ?_
  rintro e wb ⟨vb,rfl,hvb,hbb⟩
  obtain ⟨x6,y6,p6,rfl,-⟩:=hvb.agg
  generalize decide ((0:Rat).num<0)=s6 at *
  obtain ⟨X,hX⟩:∃ X,X=wb.alloc (.cells #[.bool s6,.int .u64 x6,.int .u64 y6,.pointer p6] 27):=⟨_,rfl⟩
  have bX:But [] wb X:=by rw [hX];exact (But.refl _ _).alloc _
  obtain ⟨g10,hg10⟩:∃ g,g=wb.heap.size:=⟨_,rfl⟩
  have J0:Hid (P4 X g10 s6 x6 y6 p6):=by show P4 _ _ _ _ _ _;rw [hX,hg10];exact ⟨by simp,by simp,by simp,by simp⟩
  have Bb:=hide (((unhide Ba).trans' hbb).trans' bX)
  have Ub:=hide (hDR (unhide Ua) (hbb.trans' bX))
  have Fb:=hide ((unhide Fa).but (hbb.trans' bX))
  have Kb:=hide ((unhide Ka).but (hbb.trans' bX) (by simp))
  have Gb:=hide (hvb.but bX)
  have HX:=hide hX
  clear hvb hbb bX hX Ba Ua Fa Ka Va
  go_wp2_with fail
  rw [← unhide HX,← hg10]
  clear HX hg10
  refine (unhide LPH X (unhide Bb)).mono ?_
  rintro e wc ⟨vc,rfl,hc,hbc⟩
  have Bc:=hide ((unhide Bb).trans' hbc)
  have Uc:=hide (hDR (unhide Ub) hbc)
  have Fc:=hide (And.intro ((unhide Fb).but hbc) ((unhide Gb).but hbc))
  have Kc:=hide (And.intro ((unhide Kb).but hbc (by simp)) ((unhide J0).but hbc (by simp)))
  have Hc:=hide hc
  clear hc hbc Bb Ub Fb Gb Kb J0
  go_wp2_with fail
  refine (unhide LRH wc (unhide Bc)).mono ?_
  rintro e wd ⟨vd',rfl,hd,hbd⟩
  have Bd:=hide ((unhide Bc).trans' hbd)
  have Ud:=hide (hDR (unhide Uc) hbd)
  have Fd:=hide (And.intro ((unhide Fc).1.but hbd) ((unhide Fc).2.but hbd))
  have Kd:=hide (And.intro ((unhide Kc).1.but hbd (by simp)) ((unhide Kc).2.but hbd (by simp)))
  have Rd:=hide (unhide RVH wd vc vd' ((unhide Hc).but hbd) hd)
  clear hd hbd Bc Uc Fc Kc Hc RVH
  go_wp2_with fail
  refine (unhide Rd).mono ?_
  rintro e we ⟨rfl,hbe⟩
  have Be:=hide ((unhide Bd).trans' hbe)
  have Ue:=hide (hDR (unhide Ud) hbe)
  have Fe:=hide (And.intro ((unhide Fd).1.but hbe) ((unhide Fd).2.but hbe))
  have Ke:=hide (And.intro ((unhide Kd).1.but hbe (by simp)) ((unhide Kd).2.but hbe (by simp)))
  
  clear hbe Bd Ud Fd Kd Rd
  go_wp2_with fail
  refine (unhide I0H we).mono ?_
  rintro e wf ⟨yb,rfl,hy,hbf⟩
  have Bf:=hide ((unhide Be).trans' hbf)
  have Ff:=hide (And.intro ((unhide Fe).1.but hbf) ((unhide Fe).2.but hbf))
  have kf:=(unhide Ke).1.but hbf (by simp)
  have kg:=(unhide Ke).2.but hbf (by simp)
  have O1:=hide (unhide ONH wf _ (.pointer none) (unhide Bf) (unhide Ff).1)
  clear hy hbf Be Ue Fe Ke
  obtain ⟨q0,q1,q2,q3⟩:=kf
  obtain ⟨r0',r1,r2,r3⟩:=kg
  go_wp2_with fail
  refine (unhide O1).mono ?_
  rintro e wh ⟨rfl,hbh⟩
  have Bh:=hide ((unhide Bf).trans' hbh)
  have O2:=hide (unhide ONH wh _ (.pointer (some ⟨yb,0,none⟩)) (unhide Bh) ((unhide Ff).2.but hbh))
  replace r0':=hbh.cell_some r0' (by simp)
  replace r1:=hbh.cell_some r1 (by simp)
  replace r2:=hbh.cell_some r2 (by simp)
  replace r3:=hbh.cell_some r3 (by simp)
  clear hbh Bf Ff O1 q0 q1 q2 q3
  go_wp2_with fail
  refine (unhide O2).mono ?_
  rintro e wi ⟨rfl,hbi⟩
  have Bi:=hide ((unhide Bh).trans' hbi)
  clear hbi Bh O2
  go_wp2
  go_ret
  exact ⟨rfl,unhide Bi⟩
theorem flowSays_ok (np cp nr cr:Nat) (ap ar:Option Addr) (ps rs:List Rat) (R:Nat→Rat) (r0:Rat) (rv rg:Rat) (ee ev:Value) (w:World) (hnp:np≤60) (hnr:nr≤60∨120<nr∧nr≤130) (DP:World→Value→Prop) (hDP:∀ {W W':World} {u:Value},DP W u→But [] W W'→DP W' u)
  (FP:∀ W,But [] w W→Calls Tryz.prog 14 #[.slice ap np cp] W fun e w'=>∃ v',e=.returned v'∧FracsAt w' v' ps∧But [] W w')
  (FR:∀ W,But [] w W→Calls Tryz.prog 14 #[.slice ar nr cr] W fun e w'=>∃ v',e=.returned v'∧FracsAt w' v' rs∧But [] W w')
  (LP:∀ W,But [] w W→Calls Tryz.prog 16 #[.slice ap np cp] W fun e w'=>∃ v',e=.returned v'∧RatsAt w' v' ps∧But [] W w')
  (LR:∀ W,But [] w W→Calls Tryz.prog 16 #[.slice ar nr cr] W fun e w'=>∃ v',e=.returned v'∧RatsAt w' v' rs∧But [] W w')
  (DC:∀ W vr,FracsAt W vr rs→Calls Tryz.prog 13 #[vr] W fun e w'=>∃ v,e=.returned (.tuple #[v,ee])∧DP w' v∧But [] W w')
  (RD:∀ W vr,RatsAt W vr rs→Calls Tryz.prog 15 #[vr] W fun e w'=>∃ u,e=.returned (.tuple #[u,.int .i64 0])∧RatsAt w' u ((List.range (nr+1)).map (discR R))∧But [] W w')
  (LI:∀ W v u,But [] w W→DP W v→RatsAt W u ((List.range (nr+1)).map (discR R))→Calls Tryz.prog 17 #[v,ee,u,.int .i64 0] W fun e w'=>e=.returned (.bool true)∧But [] W w')
  (VA:∀ W vp vr,FracsAt W vp ps→FracsAt W vr rs→Calls Tryz.prog 18 #[vp,vr] W fun e w'=>∃ v,e=.returned (.tuple #[v,ev])∧FracAt w' v rv∧But [] W w')
  (GA:∀ W vp vr,FracsAt W vp ps→FracsAt W vr rs→Calls Tryz.prog 19 #[vp,vr] W fun e w'=>∃ v,e=.returned (.tuple #[v,ev])∧FracAt w' v rg∧But [] W w')
  (RV:∀ W vp vr,RatsAt W vp ps→RatsAt W vr rs→Calls Tryz.prog 20 #[vp,vr] W fun e w'=>∃ xb,e=.returned (.tuple #[.pointer (some ⟨xb,0,none⟩),.int .i64 0])∧SumAt w' xb r0∧But [] W w')
  (I0:∀ W,Calls Tryz.prog 21 #[.int .i64 0] W fun e w'=>∃ zb,e=.returned (.pointer (some ⟨zb,0,none⟩))∧RatIs w' zb (((0:Int):Rat))∧But [] W w')
  (DV:∀ W xb gb,But [] w W→SumAt W xb r0→RatIs W gb (discR R nr)→Calls Tryz.prog 22 #[.pointer (some ⟨xb,0,none⟩),.pointer (some ⟨gb,0,none⟩)] W fun e w'=>∃ zb,e=.returned (.pointer (some ⟨zb,0,none⟩))∧RatIs w' zb rg∧But [] W w')
  (ON:∀ W v xb,But [] w W→FracAt W v rv→SumAt W xb r0→Calls Tryz.prog 23 #[v,ev,.pointer (some ⟨xb,0,none⟩),.int .i64 0] W fun e w'=>e=.returned (.bool true)∧But [] W w')
  (OM:∀ W v yb,But [] w W→FracAt W v rg→RatIs W yb rg→Calls Tryz.prog 23 #[v,ev,.pointer (some ⟨yb,0,none⟩),.int .i64 0] W fun e w'=>e=.returned (.bool true)∧But [] W w') :
  Calls Tryz.prog 4 #[.slice ap np cp,.slice ar nr cr] w fun e w'=>e=.returned (.bool true)∧But [] w w':=by
 have FPH:=hide FP
 have FRH:=hide FR
 have LPH:=hide LP
 have LRH:=hide LR
 have DCH:=hide DC
 have RDH:=hide RD
 have LIH:=hide LI
 have VAH:=hide VA
 have GAH:=hide GA
 have RVH:=hide RV
 have I0H:=hide I0
 have ONH:=hide ON
 have OMH:=hide OM
 have DVH:=hide DV
 clear OM DV
 clear FP FR LP LR DC RD LI VA GA RV I0 ON
 have guard:Hid (nr≤60∨120<nr∧nr≤130):=hnr
 go_enter Tryz.func4,Tryz.ntmps4
 have G0:Hid (But [] w w):=But.refl _ _
 clear guard
 rcases hnr with h | ⟨h,h2⟩
 ·go_wp2_with fail
  refine (unhide FRH w (unhide G0)).mono ?_
  rintro e w1 ⟨v1,rfl,h1,hb1⟩
  have D1:=hide (unhide DCH w1 v1 h1)
  have B1:=hide ((unhide G0).trans' hb1)
  clear h1 hb1 G0 DCH
  go_wp2_with fail
  refine (unhide D1).mono ?_
  rintro e w2 ⟨vd,rfl,hd,hb2⟩
  have B2:=hide ((unhide B1).trans' hb2)
  have P2:=hide hd
  clear hd hb2 B1 D1
  go_wp2_with fail
  refine (unhide LRH w2 (unhide B2)).mono ?_
  rintro e w3 ⟨u1,rfl,h1,hb3⟩
  have D3:=hide (unhide RDH w3 u1 h1)
  have B3:=hide ((unhide B2).trans' hb3)
  have P3:=hide (hDP (unhide P2) hb3)
  clear h1 hb3 B2 P2 RDH
  go_wp2_with fail
  refine (unhide D3).mono ?_
  rintro e w4 ⟨ud,rfl,hu,hb4⟩
  have B4:=hide ((unhide B3).trans' hb4)
  have L4:=hide (unhide LIH w4 vd ud (unhide B4) (hDP (unhide P3) hb4) hu)
  have U4:=hide hu
  clear hu hb4 B3 P3 LIH D3
  go_wp2_with fail
  refine (unhide L4).mono ?_
  rintro e w5 ⟨rfl,hb5⟩
  have B5:=hide ((unhide B4).trans' hb5)
  have U5:=hide ((unhide U4).but hb5)
  clear hb5 B4 U4 L4
  go_wp2_with fail
  refine (unhide FPH w5 (unhide B5)).mono ?_
  rintro e w6 ⟨v6,rfl,h6,hb6⟩
  have B6:=hide ((unhide B5).trans' hb6)
  have U6:=hide ((unhide U5).but hb6)
  have H6:=hide h6
  clear h6 hb6 B5 U5
  go_wp2_with fail
  refine (unhide FRH w6 (unhide B6)).mono ?_
  rintro e w7 ⟨v7,rfl,h7,hb7⟩
  have B7:=hide ((unhide B6).trans' hb7)
  have U7:=hide ((unhide U6).but hb7)
  have V7:=hide (unhide VAH w7 v6 v7 ((unhide H6).but hb7) h7)
  clear h7 hb7 B6 U6 H6 VAH
  go_wp2_with fail
  refine (unhide V7).mono ?_
  rintro e w8 ⟨vv,rfl,hv8,hb8⟩
  obtain ⟨x5,y5,p5,rfl,-⟩:=hv8.agg
  generalize decide ((rv:Rat).num<0)=s5 at *
  obtain ⟨V,hV⟩:∃ V,V=w8.alloc (.cells #[.bool s5,.int .u64 x5,.int .u64 y5,.pointer p5] 27):=⟨_,rfl⟩
  have bV:But [] w8 V:=by rw [hV];exact (But.refl _ _).alloc _
  obtain ⟨g9,hg9⟩:∃ g,g=w8.heap.size:=⟨_,rfl⟩
  have K0:Hid (P4 V g9 s5 x5 y5 p5):=by show P4 _ _ _ _ _ _;rw [hV,hg9];exact ⟨by simp,by simp,by simp,by simp⟩
  have B8:=hide (((unhide B7).trans' hb8).trans' bV)
  have U8:=hide ((unhide U7).but (hb8.trans' bV))
  have F8:=hide (hv8.but bV)
  have HV:=hide hV
  clear hv8 hb8 bV hV B7 U7 V7
  go_wp2_with fail
  rw [← unhide HV,← hg9]
  clear HV hg9
  refine (unhide FPH V (unhide B8)).mono ?_
  rintro e w9 ⟨v9,rfl,h9,hb9⟩
  have B9:=hide ((unhide B8).trans' hb9)
  have U9:=hide ((unhide U8).but hb9)
  have F9:=hide ((unhide F8).but hb9)
  have K9:=hide ((unhide K0).but hb9 (by simp))
  have H9:=hide h9
  clear h9 hb9 B8 U8 F8 K0
  go_wp2_with fail
  refine (unhide FRH w9 (unhide B9)).mono ?_
  rintro e wa ⟨va,rfl,ha,hba⟩
  have Ba:=hide ((unhide B9).trans' hba)
  have Ua:=hide ((unhide U9).but hba)
  have Fa:=hide ((unhide F9).but hba)
  have Ka:=hide ((unhide K9).but hba (by simp))
  have Va:=hide (unhide GAH wa v9 va ((unhide H9).but hba) ha)
  clear ha hba B9 U9 F9 K9 H9 GAH
  go_wp2_with fail
  refine (unhide Va).mono ?_
  rintro e wb ⟨vb,rfl,hvb,hbb⟩
  obtain ⟨x6,y6,p6,rfl,-⟩:=hvb.agg
  generalize decide ((rg:Rat).num<0)=s6 at *
  obtain ⟨X,hX⟩:∃ X,X=wb.alloc (.cells #[.bool s6,.int .u64 x6,.int .u64 y6,.pointer p6] 27):=⟨_,rfl⟩
  have bX:But [] wb X:=by rw [hX];exact (But.refl _ _).alloc _
  obtain ⟨g10,hg10⟩:∃ g,g=wb.heap.size:=⟨_,rfl⟩
  have J0:Hid (P4 X g10 s6 x6 y6 p6):=by show P4 _ _ _ _ _ _;rw [hX,hg10];exact ⟨by simp,by simp,by simp,by simp⟩
  have Bb:=hide (((unhide Ba).trans' hbb).trans' bX)
  have Ub:=hide ((unhide Ua).but (hbb.trans' bX))
  have Fb:=hide ((unhide Fa).but (hbb.trans' bX))
  have Kb:=hide ((unhide Ka).but (hbb.trans' bX) (by simp))
  have Gb:=hide (hvb.but bX)
  have HX:=hide hX
  clear hvb hbb bX hX Ba Ua Fa Ka Va
  go_wp2_with fail
  rw [← unhide HX,← hg10]
  clear HX hg10
  refine (unhide LPH X (unhide Bb)).mono ?_
  rintro e wc ⟨vc,rfl,hc,hbc⟩
  have Bc:=hide ((unhide Bb).trans' hbc)
  have Uc:=hide ((unhide Ub).but hbc)
  have Fc:=hide (And.intro ((unhide Fb).but hbc) ((unhide Gb).but hbc))
  have Kc:=hide (And.intro ((unhide Kb).but hbc (by simp)) ((unhide J0).but hbc (by simp)))
  have Hc:=hide hc
  clear hc hbc Bb Ub Fb Gb Kb J0
  go_wp2_with fail
  refine (unhide LRH wc (unhide Bc)).mono ?_
  rintro e wd ⟨vd',rfl,hd,hbd⟩
  have Bd:=hide ((unhide Bc).trans' hbd)
  have Ud:=hide ((unhide Uc).but hbd)
  have Fd:=hide (And.intro ((unhide Fc).1.but hbd) ((unhide Fc).2.but hbd))
  have Kd:=hide (And.intro ((unhide Kc).1.but hbd (by simp)) ((unhide Kc).2.but hbd (by simp)))
  have Rd:=hide (unhide RVH wd vc vd' ((unhide Hc).but hbd) hd)
  clear hd hbd Bc Uc Fc Kc Hc RVH
  go_wp2_with fail
  refine (unhide Rd).mono ?_
  rintro e we ⟨xb,rfl,hx,hbe⟩
  have Be:=hide ((unhide Bd).trans' hbe)
  have Ue:=hide ((unhide Ud).but hbe)
  have Fe:=hide (And.intro ((unhide Fd).1.but hbe) ((unhide Fd).2.but hbe))
  have Ke:=hide (And.intro ((unhide Kd).1.but hbe (by simp)) ((unhide Kd).2.but hbe (by simp)))
  have Xe:=hide hx
  clear hx hbe Bd Ud Fd Kd Rd
  go_wp2_with fail
  refine (unhide I0H we).mono ?_
  rintro e wf ⟨yb,rfl,hy,hbf⟩
  have Bf:=hide ((unhide Be).trans' hbf)
  have Ff:=hide (And.intro ((unhide Fe).1.but hbf) ((unhide Fe).2.but hbf))
  have kf:=(unhide Ke).1.but hbf (by simp)
  have kg:=(unhide Ke).2.but hbf (by simp)
  obtain ⟨au,cu,rfl,hcu,hD⟩:=rats_cells (F:=discR R) ((unhide Ue).but hbf) (fun i hi=>by
   rw [List.length_map,List.length_range] at hi
   rw [List.getElem?_map,List.getElem?_range hi];rfl)
  rw [List.length_map,List.length_range] at hD hcu ⊢
  obtain ⟨bu,offu,gu,rfl,cu0,hTu⟩:=hD wf (But.refl _ _) nr (by omega)
  obtain ⟨N,hN⟩:∃ N,N=nr+1:=⟨_,rfl⟩
  have hNI:(N:Int)-1=(nr:Int):=by omega
  have hlN:nr<N:=by omega
  rw [← hN]
  have D5:=hide (unhide DVH wf xb gu (unhide Bf) ((unhide Xe).but hbf) hTu)
  have Xf:=hide ((unhide Xe).but hbf)
  clear hN hD hcu hTu hy hbf Be Ue Fe Ke Xe
  obtain ⟨q0,q1,q2,q3⟩:=kf
  obtain ⟨r0',r1,r2,r3⟩:=kg
  go_wp2_with fail
  refine (unhide D5).mono ?_
  rintro e wg ⟨zb,rfl,hz5,hbg⟩
  have Bg:=hide ((unhide Bf).trans' hbg)
  have O1:=hide (unhide ONH wg _ xb (unhide Bg) ((unhide Ff).1.but hbg) ((unhide Xf).but hbg))
  have Og:=hide (And.intro ((unhide Ff).2.but hbg) hz5)
  replace q0:=hbg.cell_some q0 (by simp)
  replace q1:=hbg.cell_some q1 (by simp)
  replace q2:=hbg.cell_some q2 (by simp)
  replace q3:=hbg.cell_some q3 (by simp)
  replace r0':=hbg.cell_some r0' (by simp)
  replace r1:=hbg.cell_some r1 (by simp)
  replace r2:=hbg.cell_some r2 (by simp)
  replace r3:=hbg.cell_some r3 (by simp)
  clear hz5 hbg Bf Ff Xf D5 cu0
  go_wp2_with fail
  refine (unhide O1).mono ?_
  rintro e wh ⟨rfl,hbh⟩
  have Bh:=hide ((unhide Bg).trans' hbh)
  have O2:=hide (unhide OMH wh _ zb (unhide Bh) ((unhide Og).1.but hbh) ((unhide Og).2.but hbh))
  replace r0':=hbh.cell_some r0' (by simp)
  replace r1:=hbh.cell_some r1 (by simp)
  replace r2:=hbh.cell_some r2 (by simp)
  replace r3:=hbh.cell_some r3 (by simp)
  clear hbh Bg Og O1 q0 q1 q2 q3
  go_wp2_with fail
  refine (unhide O2).mono ?_
  rintro e wi ⟨rfl,hbi⟩
  have Bi:=hide ((unhide Bh).trans' hbi)
  clear hbi Bh O2
  go_wp2
  go_ret
  exact ⟨rfl,unhide Bi⟩
 ·have h3:60<nr:=by omega
  go_wp2_with fail
  refine (unhide FRH w (unhide G0)).mono ?_
  rintro e w1 ⟨v1,rfl,h1,hb1⟩
  have D1:=hide (unhide DCH w1 v1 h1)
  have B1:=hide ((unhide G0).trans' hb1)
  clear h1 hb1 G0 DCH
  go_wp2_with fail
  refine (unhide D1).mono ?_
  rintro e w2 ⟨vd,rfl,hd,hb2⟩
  have B2:=hide ((unhide B1).trans' hb2)
  have P2:=hide hd
  clear hd hb2 B1 D1
  go_wp2_with fail
  refine (unhide LRH w2 (unhide B2)).mono ?_
  rintro e w3 ⟨u1,rfl,h1,hb3⟩
  have D3:=hide (unhide RDH w3 u1 h1)
  have B3:=hide ((unhide B2).trans' hb3)
  have P3:=hide (hDP (unhide P2) hb3)
  clear h1 hb3 B2 P2 RDH
  go_wp2_with fail
  refine (unhide D3).mono ?_
  rintro e w4 ⟨ud,rfl,hu,hb4⟩
  have B4:=hide ((unhide B3).trans' hb4)
  have L4:=hide (unhide LIH w4 vd ud (unhide B4) (hDP (unhide P3) hb4) hu)
  have U4:=hide hu
  clear hu hb4 B3 P3 LIH D3
  go_wp2_with fail
  refine (unhide L4).mono ?_
  rintro e w5 ⟨rfl,hb5⟩
  have B5:=hide ((unhide B4).trans' hb5)
  have U5:=hide ((unhide U4).but hb5)
  clear hb5 B4 U4 L4
  go_wp2_with fail
  refine (unhide FPH w5 (unhide B5)).mono ?_
  rintro e w6 ⟨v6,rfl,h6,hb6⟩
  have B6:=hide ((unhide B5).trans' hb6)
  have U6:=hide ((unhide U5).but hb6)
  have H6:=hide h6
  clear h6 hb6 B5 U5
  go_wp2_with fail
  refine (unhide FRH w6 (unhide B6)).mono ?_
  rintro e w7 ⟨v7,rfl,h7,hb7⟩
  have B7:=hide ((unhide B6).trans' hb7)
  have U7:=hide ((unhide U6).but hb7)
  have V7:=hide (unhide VAH w7 v6 v7 ((unhide H6).but hb7) h7)
  clear h7 hb7 B6 U6 H6 VAH
  go_wp2_with fail
  refine (unhide V7).mono ?_
  rintro e w8 ⟨vv,rfl,hv8,hb8⟩
  obtain ⟨x5,y5,p5,rfl,-⟩:=hv8.agg
  generalize decide ((rv:Rat).num<0)=s5 at *
  obtain ⟨V,hV⟩:∃ V,V=w8.alloc (.cells #[.bool s5,.int .u64 x5,.int .u64 y5,.pointer p5] 27):=⟨_,rfl⟩
  have bV:But [] w8 V:=by rw [hV];exact (But.refl _ _).alloc _
  obtain ⟨g9,hg9⟩:∃ g,g=w8.heap.size:=⟨_,rfl⟩
  have K0:Hid (P4 V g9 s5 x5 y5 p5):=by show P4 _ _ _ _ _ _;rw [hV,hg9];exact ⟨by simp,by simp,by simp,by simp⟩
  have B8:=hide (((unhide B7).trans' hb8).trans' bV)
  have U8:=hide ((unhide U7).but (hb8.trans' bV))
  have F8:=hide (hv8.but bV)
  have HV:=hide hV
  clear hv8 hb8 bV hV B7 U7 V7
  go_wp2_with fail
  rw [← unhide HV,← hg9]
  clear HV hg9
  refine (unhide FPH V (unhide B8)).mono ?_
  rintro e w9 ⟨v9,rfl,h9,hb9⟩
  have B9:=hide ((unhide B8).trans' hb9)
  have U9:=hide ((unhide U8).but hb9)
  have F9:=hide ((unhide F8).but hb9)
  have K9:=hide ((unhide K0).but hb9 (by simp))
  have H9:=hide h9
  clear h9 hb9 B8 U8 F8 K0
  go_wp2_with fail
  refine (unhide FRH w9 (unhide B9)).mono ?_
  rintro e wa ⟨va,rfl,ha,hba⟩
  have Ba:=hide ((unhide B9).trans' hba)
  have Ua:=hide ((unhide U9).but hba)
  have Fa:=hide ((unhide F9).but hba)
  have Ka:=hide ((unhide K9).but hba (by simp))
  have Va:=hide (unhide GAH wa v9 va ((unhide H9).but hba) ha)
  clear ha hba B9 U9 F9 K9 H9 GAH
  go_wp2_with fail
  refine (unhide Va).mono ?_
  rintro e wb ⟨vb,rfl,hvb,hbb⟩
  obtain ⟨x6,y6,p6,rfl,-⟩:=hvb.agg
  generalize decide ((rg:Rat).num<0)=s6 at *
  obtain ⟨X,hX⟩:∃ X,X=wb.alloc (.cells #[.bool s6,.int .u64 x6,.int .u64 y6,.pointer p6] 27):=⟨_,rfl⟩
  have bX:But [] wb X:=by rw [hX];exact (But.refl _ _).alloc _
  obtain ⟨g10,hg10⟩:∃ g,g=wb.heap.size:=⟨_,rfl⟩
  have J0:Hid (P4 X g10 s6 x6 y6 p6):=by show P4 _ _ _ _ _ _;rw [hX,hg10];exact ⟨by simp,by simp,by simp,by simp⟩
  have Bb:=hide (((unhide Ba).trans' hbb).trans' bX)
  have Ub:=hide ((unhide Ua).but (hbb.trans' bX))
  have Fb:=hide ((unhide Fa).but (hbb.trans' bX))
  have Kb:=hide ((unhide Ka).but (hbb.trans' bX) (by simp))
  have Gb:=hide (hvb.but bX)
  have HX:=hide hX
  clear hvb hbb bX hX Ba Ua Fa Ka Va
  go_wp2_with fail
  rw [← unhide HX,← hg10]
  clear HX hg10
  refine (unhide LPH X (unhide Bb)).mono ?_
  rintro e wc ⟨vc,rfl,hc,hbc⟩
  have Bc:=hide ((unhide Bb).trans' hbc)
  have Uc:=hide ((unhide Ub).but hbc)
  have Fc:=hide (And.intro ((unhide Fb).but hbc) ((unhide Gb).but hbc))
  have Kc:=hide (And.intro ((unhide Kb).but hbc (by simp)) ((unhide J0).but hbc (by simp)))
  have Hc:=hide hc
  clear hc hbc Bb Ub Fb Gb Kb J0
  go_wp2_with fail
  refine (unhide LRH wc (unhide Bc)).mono ?_
  rintro e wd ⟨vd',rfl,hd,hbd⟩
  have Bd:=hide ((unhide Bc).trans' hbd)
  have Ud:=hide ((unhide Uc).but hbd)
  have Fd:=hide (And.intro ((unhide Fc).1.but hbd) ((unhide Fc).2.but hbd))
  have Kd:=hide (And.intro ((unhide Kc).1.but hbd (by simp)) ((unhide Kc).2.but hbd (by simp)))
  have Rd:=hide (unhide RVH wd vc vd' ((unhide Hc).but hbd) hd)
  clear hd hbd Bc Uc Fc Kc Hc RVH
  go_wp2_with fail
  refine (unhide Rd).mono ?_
  rintro e we ⟨xb,rfl,hx,hbe⟩
  have Be:=hide ((unhide Bd).trans' hbe)
  have Ue:=hide ((unhide Ud).but hbe)
  have Fe:=hide (And.intro ((unhide Fd).1.but hbe) ((unhide Fd).2.but hbe))
  have Ke:=hide (And.intro ((unhide Kd).1.but hbe (by simp)) ((unhide Kd).2.but hbe (by simp)))
  have Xe:=hide hx
  clear hx hbe Bd Ud Fd Kd Rd
  go_wp2_with fail
  refine (unhide I0H we).mono ?_
  rintro e wf ⟨yb,rfl,hy,hbf⟩
  have Bf:=hide ((unhide Be).trans' hbf)
  have Ff:=hide (And.intro ((unhide Fe).1.but hbf) ((unhide Fe).2.but hbf))
  have kf:=(unhide Ke).1.but hbf (by simp)
  have kg:=(unhide Ke).2.but hbf (by simp)
  obtain ⟨au,cu,rfl,hcu,hD⟩:=rats_cells (F:=discR R) ((unhide Ue).but hbf) (fun i hi=>by
   rw [List.length_map,List.length_range] at hi
   rw [List.getElem?_map,List.getElem?_range hi];rfl)
  rw [List.length_map,List.length_range] at hD hcu ⊢
  obtain ⟨bu,offu,gu,rfl,cu0,hTu⟩:=hD wf (But.refl _ _) nr (by omega)
  obtain ⟨N,hN⟩:∃ N,N=nr+1:=⟨_,rfl⟩
  have hNI:(N:Int)-1=(nr:Int):=by omega
  have hlN:nr<N:=by omega
  rw [← hN]
  have D5:=hide (unhide DVH wf xb gu (unhide Bf) ((unhide Xe).but hbf) hTu)
  have Xf:=hide ((unhide Xe).but hbf)
  clear hN hD hcu hTu hy hbf Be Ue Fe Ke Xe
  obtain ⟨q0,q1,q2,q3⟩:=kf
  obtain ⟨r0',r1,r2,r3⟩:=kg
  go_wp2_with fail
  refine (unhide D5).mono ?_
  rintro e wg ⟨zb,rfl,hz5,hbg⟩
  have Bg:=hide ((unhide Bf).trans' hbg)
  have O1:=hide (unhide ONH wg _ xb (unhide Bg) ((unhide Ff).1.but hbg) ((unhide Xf).but hbg))
  have Og:=hide (And.intro ((unhide Ff).2.but hbg) hz5)
  replace q0:=hbg.cell_some q0 (by simp)
  replace q1:=hbg.cell_some q1 (by simp)
  replace q2:=hbg.cell_some q2 (by simp)
  replace q3:=hbg.cell_some q3 (by simp)
  replace r0':=hbg.cell_some r0' (by simp)
  replace r1:=hbg.cell_some r1 (by simp)
  replace r2:=hbg.cell_some r2 (by simp)
  replace r3:=hbg.cell_some r3 (by simp)
  clear hz5 hbg Bf Ff Xf D5 cu0
  go_wp2_with fail
  refine (unhide O1).mono ?_
  rintro e wh ⟨rfl,hbh⟩
  have Bh:=hide ((unhide Bg).trans' hbh)
  have O2:=hide (unhide OMH wh _ zb (unhide Bh) ((unhide Og).1.but hbh) ((unhide Og).2.but hbh))
  replace r0':=hbh.cell_some r0' (by simp)
  replace r1:=hbh.cell_some r1 (by simp)
  replace r2:=hbh.cell_some r2 (by simp)
  replace r3:=hbh.cell_some r3 (by simp)
  clear hbh Bg Og O1 q0 q1 q2 q3
  go_wp2_with fail
  refine (unhide O2).mono ?_
  rintro e wi ⟨rfl,hbi⟩
  have Bi:=hide ((unhide Bh).trans' hbi)
  clear hbi Bh O2
  go_wp2
  go_ret
  exact ⟨rfl,unhide Bi⟩
end Go.Proofs.YtollloafckcogaaGreatDoor

namespace Go.Proofs.YtollloafckcogaaGreatDoor
open Go.RowKit
set_option maxHeartbeats 16000000
set_option maxRecDepth 100000
set_option linter.unusedVariables false
theorem one_blank (v:Value) (b:Nat) (w:World) (hv:FracAt w v 0) (hb:BlankAt w b) (htab:Lib.TabIs Tryz.prog w "internal/strconv.uint64pow10" .u64 Lib.pow10Tab) :
  Calls Tryz.prog 23 #[v,.nilIface,.pointer (some ⟨b,0,none⟩),.int .i64 0] w fun e w'=>e=.returned (.bool true)∧But [] w w':=by
 have T1:=hide (fun W (h:But [] w W)=>fracText_len v 0 W (hv.but h) len_zeroX (TabIs.but htab h) ⟨#[48]⟩ txt_zero.symm)
 have T2:=hide (fun W (h:But [] w W)=>refText_blank b W (hb.but h))
 obtain ⟨x,y,p,rfl,-⟩:=id hv.agg
 clear hv hb htab
 generalize decide ((0:Rat).num<0)=s at *
 obtain ⟨V,hV⟩:∃ V,V=w.alloc (.cells #[.bool s,.int .u64 x,.int .u64 y,.pointer p] 27):=⟨_,rfl⟩
 obtain ⟨g,hg⟩:∃ g,g=w.heap.size:=⟨_,rfl⟩
 have c0:V.cell? ⟨g,0,none⟩=some (.bool s):=by rw [hV,hg];simp
 have c1:V.cell? ⟨g,1,none⟩=some (.int .u64 x):=by rw [hV,hg];simp
 have c2:V.cell? ⟨g,2,none⟩=some (.int .u64 y):=by rw [hV,hg];simp
 have c3:V.cell? ⟨g,3,none⟩=some (.pointer p):=by rw [hV,hg];simp
 have bV:But [] w V:=by rw [hV];exact (But.refl _ _).alloc _
 have BV:=hide bV
 have HV:=hide hV
 clear bV hV
 go_enter Tryz.func23,Tryz.ntmps23
 go_wp2_with fail
 rw [← unhide HV]
 try rw [← hg]
 clear hg HV
 refine (unhide T1 V (unhide BV)).mono ?_
 rintro e w1 ⟨rfl,B1⟩
 have K1:=hide ((unhide BV).trans' B1)
 clear B1 c0 c1 c2 c3
 go_wp2_with fail
 refine (unhide T2 w1 (unhide K1)).mono ?_
 rintro e w2 ⟨rfl,B2⟩
 have K2:=hide ((unhide K1).trans' B2)
 clear B2
 go_wp2
 go_ret
 exact ⟨rfl,unhide K2⟩
theorem one_sum (v:Value) (r:Rat) (b:Nat) (w:World) (hv:FracAt w v r) (hb:SumAt w b r) (lr:Len r 1000000) (htab:Lib.TabIs Tryz.prog w "internal/strconv.uint64pow10" .u64 Lib.pow10Tab) :
  Calls Tryz.prog 23 #[v,.nilIface,.pointer (some ⟨b,0,none⟩),.int .i64 0] w fun e w'=>e=.returned (.bool true)∧But [] w w':=by
 rcases hb with h | ⟨rfl,h⟩
 ·exact one_ok v r b w hv h lr htab
 ·exact one_blank v b w hv h htab
theorem vs_len (P R:Nat→Rat) (np n:Nat) (hl:np≤n+1) (hP:∀ t,t<np→Len (P t) 1) (hR:∀ t,t<n→Len (R t) 1) (hg:∀ t,t<n→0<1+R t):Len (vsR P R np) (5*np+1):=by
 rcases Nat.eq_zero_or_pos np with h0 | h0
 ·subst h0
  exact len_int 0 (by decide)
 ·rw [← worth_is P R np h0 (fun i hi=>hg i (by omega))]
  have h:=wfold_lenG P R np hP (fun t ht=>hR t (by omega)) (fun t ht=>hg t (by omega)) ((downs np 0).map (·.1)) (fun t ht=>by
   obtain ⟨x,-,rfl⟩:=List.mem_map.1 ht
   exact x.2)
  rw [List.length_map,downs_length] at h
  exact h.mono (by omega)
theorem worth_all (vp vr:Value) (ps rs:List Rat) (P R:Nat→Rat) (w:World) (hp:FracsAt w vp ps) (hr:FracsAt w vr rs) (hP:∀ i,ps[i]?.getD 0=P i) (hR:∀ i,rs[i]?.getD 0=R i) (hl:ps.length≤rs.length+1) (hn:rs.length≤120) (lp:∀ i,i<ps.length→Len (P i) 1) (lr:∀ i,i<rs.length→Len (R i) 1) (hg:∀ i,i<rs.length→0<1+R i) :
  Calls Tryz.prog 57 #[vp,vr] w fun e w'=>∃ v,e=.returned v∧FracAt w' v (vsR P R ps.length)∧But [] w w':=by
 rcases hp.open with ⟨rfl,a,cap,rfl⟩ | ⟨h0,-⟩
 ·exact worth_zero a cap vr rs w hr
 ·have eP:(fun t=>ps[t]?.getD 0)=P:=funext hP
  have eR:(fun t=>rs[t]?.getD 0)=R:=funext hR
  have h:=worth_any vp vr ps rs w hp hr h0 hl (by omega) (fun t ht=>by rw [hP];exact (lp t ht).mono (by omega)) (fun t ht=>by rw [hR];exact lr t ht) (fun t ht=>by rw [hR];exact Int.ne_of_gt (numPosL.2 (hg t ht))) (fun l hl2=>by
   rw [eP,eR]
   refine (wfold_lenG P R ps.length lp (fun t ht=>lr t (by omega)) (fun t ht=>hg t (by omega)) (l.map (·.1)) (fun t ht=>?_)).mono ?_
   ·obtain ⟨x,-,rfl⟩:=List.mem_map.1 ht
    exact x.2
   ·rw [List.length_map];omega)
  rw [eP,eR,worth_is P R ps.length h0 (fun i hi=>hg i (by omega))] at h
  exact h
theorem flowSays_any (v1 v2:Value) (qs1 qs2:List (Int × Int)) (w:World) (h1:QsAt w v1 qs1) (h2:QsAt w v2 qs2) (f1:∀ q ∈ qs1,Fits q) (f2:∀ q ∈ qs2,Fits q)
  (htab:Lib.TabIs Tryz.prog w "internal/strconv.uint64pow10" .u64 Lib.pow10Tab) (herr:w.cell? ⟨0,0,none⟩=some (.iface 169 (.agg #[.pointer (some ⟨6,29,none⟩)]))) :
  Calls Tryz.prog 4 #[v1,v2] w fun e w'=>e=.returned (.bool true)∧But [] w w':=by
 obtain ⟨ap,cp,e1,hcp,-⟩:=id h1
 obtain ⟨ar,cr,e2,hcr,-⟩:=id h2
 by_cases hguard:60<qs1.length∨qs1.length≤60∧(60<qs2.length∧qs2.length≤120∨130<qs2.length)
 ·rw [e1,e2]
  exact flowSays_many ap ar qs1.length cp qs2.length cr w hguard
 obtain ⟨ps,hps⟩:∃ ps,ps=qs1.map qf:=⟨_,rfl⟩
 obtain ⟨rs,hrs⟩:∃ rs,rs=qs2.map qf:=⟨_,rfl⟩
 have hlp:ps.length=qs1.length:=by rw [hps,List.length_map]
 have hlr:rs.length=qs2.length:=by rw [hrs,List.length_map]
 have lenq:∀ (qs:List (Int × Int)),(∀ q ∈ qs,Fits q)→∀ i,i<(qs.map qf).length→Len ((qs.map qf)[i]?.getD 0) 1:=fun qs hf i hi=>by
  rw [List.getElem?_eq_getElem hi,Option.getD_some]
  obtain ⟨q,hm,hq⟩:=List.mem_map.1 (List.getElem_mem hi)
  obtain ⟨_,_,_,l,-,-⟩:=plainF_at q (hf q hm)
  rw [← hq]
  exact l
 obtain ⟨P,hPd⟩:∃ P:Nat→Rat,P=fun i=>ps[i]?.getD 0:=⟨_,rfl⟩
 obtain ⟨R,hRd⟩:∃ R:Nat→Rat,R=fun i=>rs[i]?.getD 0:=⟨_,rfl⟩
 have hP0:∀ i,ps[i]?.getD 0=P i:=fun i=>by rw [hPd]
 have hR0:∀ i,rs[i]?.getD 0=R i:=fun i=>by rw [hRd]
 have hP:∀ i,i<ps.length→ps[i]? = some (P i):=fun i hi=>by rw [← hP0,List.getElem?_eq_getElem hi];rfl
 have hR:∀ i,i<rs.length→rs[i]? = some (R i):=fun i hi=>by rw [← hR0,List.getElem?_eq_getElem hi];rfl
 have lP:∀ i,i<ps.length→Len (P i) 1:=fun i hi=>by rw [← hP0,hps];exact lenq qs1 f1 i (by rw [← hps];exact hi)
 have lR:∀ i,i<rs.length→Len (R i) 1:=fun i hi=>by rw [← hR0,hrs];exact lenq qs2 f2 i (by rw [← hrs];exact hi)
 clear lenq hPd hRd
 have FP:∀ W,But [] w W→Calls Tryz.prog 14 #[v1] W fun e w'=>∃ v',e=.returned v'∧FracsAt w' v' ps∧But [] W w':=fun W hb=>(plainFs_any v1 qs1 W (h1.but hb) f1 (by omega)).mono fun e w' ⟨v',vs,he,hh,hb'⟩=>⟨v',he,by rw [hps];exact hh.fracs,hb'⟩
 have FR:∀ W,But [] w W→Calls Tryz.prog 14 #[v2] W fun e w'=>∃ v',e=.returned v'∧FracsAt w' v' rs∧But [] W w':=fun W hb=>(plainFs_any v2 qs2 W (h2.but hb) f2 (by omega)).mono fun e w' ⟨v',vs,he,hh,hb'⟩=>⟨v',he,by rw [hrs];exact hh.fracs,hb'⟩
 have LP:∀ W,But [] w W→Calls Tryz.prog 16 #[v1] W fun e w'=>∃ v',e=.returned v'∧RatsAt w' v' ps∧But [] W w':=fun W hb=>(refList_any v1 qs1 W (h1.but hb) f1 (by omega)).mono fun e w' ⟨v',us,he,hh,hb'⟩=>⟨v',he,by rw [hps];exact hh.rats,hb'⟩
 have LR:∀ W,But [] w W→Calls Tryz.prog 16 #[v2] W fun e w'=>∃ v',e=.returned v'∧RatsAt w' v' rs∧But [] W w':=fun W hb=>(refList_any v2 qs2 W (h2.but hb) f2 (by omega)).mono fun e w' ⟨v',us,he,hh,hb'⟩=>⟨v',he,by rw [hrs];exact hh.rats,hb'⟩
 have I0:∀ W,Calls Tryz.prog 21 #[.int .i64 0] W fun e w'=>∃ zb,e=.returned (.pointer (some ⟨zb,0,none⟩))∧RatIs w' zb (((0:Int):Rat))∧But [] W w':=fun W=>refIntQ 0 W (by omega) (by omega)
 have OE:∀ (n:Int),(n != 0)=true→∀ W v x,But [] w W→FracAt W v 0→Calls Tryz.prog 23 #[v,.iface 33 (.int .i64 n),x,.int .i64 n] W fun e w'=>e=.returned (.bool true)∧But [] W w':=fun n hn W v x hb hv=>one_err n v x W hv hn (TabIs.but htab hb) (hb.cell_some herr (by simp))
 have LE:∀ (n:Int),(n != 0)=true→∀ W v u,But [] w W→v=.slice none 0 0→True→Calls Tryz.prog 17 #[v,.iface 33 (.int .i64 n),u,.int .i64 n] W fun e w'=>e=.returned (.bool true)∧But [] W w':=fun n hn W v u hb hv _=>by
  rw [hv]
  exact list_err n none 0 u W hn (hb.cell_some herr (by simp))
 have hnp:qs1.length≤60:=by omega
 have hnr:qs2.length≤60∨120<qs2.length∧qs2.length≤130:=by omega
 rw [e1] at FP LP
 rw [e2] at FR LR
 rw [e1,e2]
 -- rates that may not be
 have bad:∀ z:Int,(z==0)=false→(z != 0)=true→(∀ W vr,FracsAt W vr rs→Calls Tryz.prog 49 #[vr] W fun e w'=>e=.returned (.iface 33 (.int .i64 z))∧But [] W w')→(∀ W vr,RatsAt W vr rs→Calls Tryz.prog 15 #[vr] W fun e w'=>e=.returned (.tuple #[.slice none 0 0,.int .i64 z])∧But [] W w') →
   Calls Tryz.prog 4 #[.slice ap qs1.length cp,.slice ar qs2.length cr] w fun e w'=>e=.returned (.bool true)∧But [] w w':=fun z hz hz' CK RD =>
  flowSays_bad qs1.length cp qs2.length cr ap ar ps rs z hz z (.iface 33 (.int .i64 z)) (.iface 33 (.int .i64 z)) w hnp hnr (fun _ v=>v=.slice none 0 0) (fun h _=>h) (fun _ _=>True) (fun h _=>h) FP FR LP LR
   (fun W vr hr=>(flowDisc_err vr z W (CK W vr hr)).mono fun e w' ⟨he,hb⟩=>⟨_,he,rfl,hb⟩)
   (fun W vr hr=>(RD W vr hr).mono fun e w' ⟨he,hb⟩=>⟨_,he,trivial,hb⟩)
   (LE z hz')
   (fun W vp vr hp hr=>flowValue_err vp vr z W (fun W' hb=>checkPay_err vp vr z W' (CK W' vr (hr.but hb))))
   (fun W vp vr hp hr=>flowGrown_err vp vr z W (fun W' hb=>checkPay_err vp vr z W' (CK W' vr (hr.but hb))))
   (fun W vp vr hp hr=>refValue_err vp vr z W hz' (RD W vr hr)) I0 (OE z hz')
 by_cases hbig:120<qs2.length
 ·refine bad 4 (by decide) (by decide) (fun W vr hr=>?_) (fun W vr hr=>?_)
  ·obtain ⟨a,cap,rfl,-,-⟩:=fracs_cells hr (R:=R) (fun i _=>hR0 i)
   exact flowCheck_limit a _ cap W (by omega)
  ·obtain ⟨a,cap,rfl,-⟩:=hr.open
   exact refDisc_limit a _ cap W (by omega)
 have hn:rs.length≤120:=by omega
 by_cases hbad:∃ t,t<rs.length∧¬ 0<1+R t
 ·obtain ⟨m,hm,hmb,hmg⟩:=first_bad (P:=fun t=>0<1+R t) rs.length hbad
  exact bad 1 (by decide) (by decide) (fun W vr hr=>flowCheck_bad vr rs R W hr (fun i _=>hR0 i) hn lR hbad) (fun W vr hr=>refDisc_bad vr rs R W hr hR hn lR m hm hmg hmb)
 clear bad
 have hg:∀ i,i<rs.length→0<1+R i:=fun i hi=>Classical.byContradiction fun h=>hbad ⟨i,hi,h⟩
 have CK:∀ W vr,FracsAt W vr rs→Calls Tryz.prog 49 #[vr] W fun e w'=>e=.returned .nilIface∧But [] W w':=fun W vr hr=>flowCheck_ok vr rs R W hr (fun i _=>hR0 i) hn lR hg
 have RD:∀ W vr,RatsAt W vr rs→Calls Tryz.prog 15 #[vr] W fun e w'=>∃ v' us,e=.returned (.tuple #[v',.int .i64 0])∧OwnR w' W.heap.size v' ((List.range (rs.length+1)).map (discR R)) us∧But [] W w':=fun W vr hr=>refDisc_ok vr rs R W hr hR hn lR hg
 have DC:∀ W vr,FracsAt W vr rs→Calls Tryz.prog 13 #[vr] W fun e w'=>∃ v,e=.returned (.tuple #[v,.nilIface])∧FracsAt w' v ((List.range (rs.length+1)).map (discR R))∧But [] W w':=fun W vr hr=>flowDisc_ok vr rs R W hr (fun i _=>hR0 i) hn lR hg
 have RD2:∀ W vr,RatsAt W vr rs→Calls Tryz.prog 15 #[vr] W fun e w'=>∃ u,e=.returned (.tuple #[u,.int .i64 0])∧RatsAt w' u ((List.range (rs.length+1)).map (discR R))∧But [] W w':=fun W vr hr=>(RD W vr hr).mono fun e w' ⟨v',us,he,ho,hb⟩=>⟨v',he,ho.rats,hb⟩
 have LI:∀ W v u,But [] w W→FracsAt W v ((List.range (rs.length+1)).map (discR R))→RatsAt W u ((List.range (rs.length+1)).map (discR R))→Calls Tryz.prog 17 #[v,.nilIface,u,.int .i64 0] W fun e w'=>e=.returned (.bool true)∧But [] W w':=fun W v u hb hv hu =>
  list_ok v u _ W hv hu (fun f hf=>by
   obtain ⟨i,hi,rfl⟩:=List.mem_map.1 hf
   have hi':=List.mem_range.1 hi
   exact (len_disc (r:=R) i (fun j hj=>hg j (by omega)) (fun j hj=>lR j (by omega))).mono (by omega)) (by rw [List.length_map,List.length_range];omega) (TabIs.but htab hb)
 by_cases hform:rs.length+1<ps.length
 ·have CF:∀ W vp vr,FracsAt W vp ps→FracsAt W vr rs→Calls Tryz.prog 56 #[vp,vr] W fun e w'=>e=.returned (.iface 33 (.int .i64 3))∧But [] W w':=fun W vp vr hp hr=>by
   have hc:=CK W vr hr
   obtain ⟨a,cap,rfl,-,-⟩:=fracs_cells hp (R:=P) (fun i _=>hP0 i)
   obtain ⟨a',cap',rfl,-,-⟩:=fracs_cells hr (R:=R) (fun i _=>hR0 i)
   exact checkPay_form a a' _ _ cap cap' W hform (by omega) hc
  exact flowSays_bad qs1.length cp qs2.length cr ap ar ps rs 3 (by decide) 0 .nilIface (.iface 33 (.int .i64 3)) w hnp hnr (fun W v=>FracsAt W v ((List.range (rs.length+1)).map (discR R))) (fun h hb=>h.but hb) (fun W u=>RatsAt W u ((List.range (rs.length+1)).map (discR R))) (fun h hb=>h.but hb) FP FR LP LR DC RD2 LI
   (fun W vp vr hp hr=>flowValue_err vp vr 3 W (fun W' hb=>CF W' vp vr (hp.but hb) (hr.but hb)))
   (fun W vp vr hp hr=>flowGrown_err vp vr 3 W (fun W' hb=>CF W' vp vr (hp.but hb) (hr.but hb)))
   (fun W vp vr hp hr=>by
    have hd:=RD W vr hr
    obtain ⟨a,cap,rfl,-⟩:=hp.open
    obtain ⟨a',cap',rfl,-⟩:=hr.open
    exact refValue_form a a' _ _ cap cap' W hform (by omega) (hd.mono fun e w' ⟨v',us,he,_,hb⟩=>⟨v',he,hb⟩)) I0 (OE 3 (by decide))
 have hl:ps.length≤rs.length+1:=by omega
 have CO:∀ W vp vr,FracsAt W vp ps→FracsAt W vr rs→Calls Tryz.prog 56 #[vp,vr] W fun e w'=>e=.returned .nilIface∧But [] W w':=fun W vp vr hp hr=>by
  have hc:=CK W vr hr
  obtain ⟨a,cap,rfl,-,-⟩:=fracs_cells hp (R:=P) (fun i _=>hP0 i)
  obtain ⟨a',cap',rfl,-,-⟩:=fracs_cells hr (R:=R) (fun i _=>hR0 i)
  exact checkPay_ok a a' _ _ cap cap' W hl (by omega) hc
 have lv:=vs_len P R ps.length rs.length hl lP lR hg
 have lg:=gr_len P R ps.length rs.length lP lR (rs.length+1) (Nat.le_refl _)
 have ld:=len_disc (r:=R) rs.length hg lR
 have hd0:=discR_pos (r:=R) rs.length hg
 have hgr:=gr_is P R ps.length rs.length hg
 rw [show min (rs.length+1) ps.length=ps.length from by omega] at hgr
 rw [hlr] at DC RD2 LI
 exact flowSays_ok qs1.length cp qs2.length cr ap ar ps rs R (vsR P R ps.length) (vsR P R ps.length) (grR P R ps.length (rs.length+1)) .nilIface .nilIface w hnp hnr (fun W v=>FracsAt W v ((List.range (qs2.length+1)).map (discR R))) (fun h hb=>h.but hb) FP FR LP LR DC RD2 LI
  (fun W vp vr hp hr=>flowValue_ok vp vr _ W (fun W' hb=>CO W' vp vr (hp.but hb) (hr.but hb)) (fun W' hb=>worth_all vp vr ps rs P R W' (hp.but hb) (hr.but hb) hP0 hR0 hl hn lP lR hg))
  (fun W vp vr hp hr=>flowGrown_ok vp vr ps rs P R W hp hr (fun i _=>hP0 i) (fun i _=>hR0 i) hl hn lP lR (fun W' hb=>CO W' vp vr (hp.but hb) (hr.but hb)))
  (fun W vp vr hp hr=>refValue_ok vp vr ps P R rs.length W hp hP (hr.open.elim fun a h=>h.elim fun c h=>⟨a,c,h.1⟩) hl hn lP lR hg (RD W vr hr))
  I0
  (fun W xb gb _ hx hgb=>refDivS xb gb _ _ _ W hx (by rw [hlr];exact hgb) ((lenU_len lv).mono (by omega)) ((lenU_len ld).mono (by omega)) (Int.ne_of_gt (numPosL.2 hd0)) hgr)
  (fun W v xb hb hv hx=>one_sum v _ xb W hv hx (lv.mono (by omega)) (TabIs.but htab hb))
  (fun W v yb hb hv hy=>one_ok v _ yb W hv hy (lg.mono (by omega)) (TabIs.but htab hb))
end Go.Proofs.YtollloafckcogaaGreatDoor
