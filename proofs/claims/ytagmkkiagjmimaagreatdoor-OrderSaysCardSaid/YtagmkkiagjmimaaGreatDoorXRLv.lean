/- The order of two of the reference's numb -/
import Derived.Test.YtagmkkiagjmimaaGreatDoorXRLb
namespace Go.Proofs.YtagmkkiagjmimaaGreatDoor
open Go.Proofs.Tryz
open Go.RowKit
set_option maxHeartbeats 16000000
set_option maxRecDepth 100000
set_option linter.unusedVariables false
theorem l8.num {w:World} {b:Nat} {f:Rat} (h:l8 w b f):ze w b 0 f.num:=by(
 rcases h with h|⟨rfl,h⟩
 ·exact zu.up h
 ·exact h.1)
theorem l8.lt {w:World} {b:Nat} {f:Rat} (h:l8 w b f):b<w.heap.size:=h.num.lt
theorem zwz (b:Nat) (f:Rat) (w:World) (h:l8 w b f) :
   Calls prog 83 #[.pointer (some ⟨b,0,none⟩)] w fun e w'=>∃ q o,e=.returned (.pointer (some ⟨q,o,none⟩))∧(q=b∨w.heap.size≤q)∧But [] w w'∧ze w' q o (f.den:Int):=by(
 have hfd:0<f.den:=Nat.pos_of_ne_zero f.den_nz
 rcases h with h|⟨rfl,h⟩
 ·refine (j4 b f.num f.den w h hfd).mono ?_
  rintro e w' ⟨rfl,rfl⟩
  exact⟨b,2,rfl,.inl rfl,But.refl _ _,zu.low h⟩
 ·refine (zdj b w h).mono ?_
  rintro e w' ⟨q,rfl,hq,hb,hI⟩
  exact⟨q,0,rfl,.inr hq,hb,hI⟩)
theorem qee (xb yb:Nat) (f g:Rat) (w:World) (hx:l8 w xb f) (hy:l8 w yb g) (lf:qd f 2000000) (lg:qd g 2000000) :
   Calls prog 22 #[.pointer (some ⟨xb,0,none⟩),.pointer (some ⟨yb,0,none⟩)] w fun e w'=>∃ c,e=.returned (.int .i64 c)∧(c<0↔f<g)∧(0<c↔g<f)∧But [] w w':=by(
 have hfd:0<f.den:=Nat.pos_of_ne_zero f.den_nz
 have hgd:0<g.den:=Nat.pos_of_ne_zero g.den_nz
 obtain⟨lf1,lf2⟩:=lf
 obtain⟨lg1,lg2⟩:=lg
 have d1:(wd 4294967296 ((f.den:Nat):Int).natAbs).length≤2000000:=by rw[Int.natAbs_natCast];exact lf2
 have d2:(wd 4294967296 ((g.den:Nat):Int).natAbs).length≤2000000:=by rw[Int.natAbs_natCast];exact lg2
 have p1:=qp f.num (g.den:Int) _ _ lf1 d2
 have p2:=qp g.num (f.den:Int) _ _ lg1 d1
 obtain⟨x,ex⟩:∃ x,x=f.num:=⟨_,rfl⟩
 obtain⟨y,ey⟩:∃ y,y=g.num:=⟨_,rfl⟩
 obtain⟨nx,enx⟩:∃ n,n=f.den:=⟨_,rfl⟩
 obtain⟨ny,eny⟩:∃ n,n=g.den:=⟨_,rfl⟩
 obtain⟨P,hP⟩:∃ P:Int,x*(ny:Int)=P:=⟨_,rfl⟩
 obtain⟨Q,hQ⟩:∃ Q:Int,y*(nx:Int)=Q:=⟨_,rfl⟩
 have fin:∀ c,c=vw P Q→(c<0↔f<g)∧(0<c↔g<f):=fun c hc=>by
  rw[hc,← hP,← hQ,ex,ey,enx,eny,Rat.lt_iff,Rat.lt_iff]
  unfold vw
  constructor
  ·split
   ·omega
   ·split <;> omega
  ·split
   ·omega
   ·split <;> omega
 have FIN:=af fin
 clear fin
 rw[← ex,← eny] at p1
 rw[← ey,← enx] at p2
 rw[hP] at p1
 rw[hQ] at p2
 rw[← ex] at lf1
 rw[← ey] at lg1
 rw[← enx] at hfd d1
 rw[← eny] at hgd d2
 have NX:=af (fun W (h:But [] w W)=>show ze W xb 0 x by rw[ex];exact (hx.but h).num)
 have NY:=af (fun W (h:But [] w W)=>show ze W yb 0 y by rw[ey];exact (hy.but h).num)
 have DX:=af (fun W (h:But [] w W)=>by have:=zwz xb f W (hx.but h);rw[← enx] at this;exact this)
 have DY:=af (fun W (h:But [] w W)=>by have:=zwz yb g W (hy.but h);rw[← eny] at this;exact this)
 have lx:=hx.lt
 have ly:=hy.lt
 have lf1':(wd 4294967296 x.natAbs).length<8388608:=by omega
 have lg1':(wd 4294967296 y.natAbs).length<8388608:=by omega
 have d1':(wd 4294967296 nx).length<8388608:=by rw[Int.natAbs_natCast] at d1;omega
 have d2':(wd 4294967296 ny).length<8388608:=by rw[Int.natAbs_natCast] at d2;omega
 have hPl:(wd 4294967296 P.natAbs).length<8388608:=by omega
 have hQl:(wd 4294967296 Q.natAbs).length<8388608:=by omega
 clear ex ey enx eny lf2 lg2 hx hy
 obtain⟨c1,c2⟩:=uw (nx:Int) (ny:Int)
 have hc0:=zhu (nx:Int) (ny:Int)
 have CD:=af (fun (b1 o1 b2 o2:Nat) W (h1:ze W b1 o1 (nx:Int)) (h2:ze W b2 o2 (ny:Int))=>l5 b1 o1 b2 o2 (nx:Int) (ny:Int) W h1 h2 (by omega) (by omega))
 generalize vw (nx:Int) (ny:Int)=cd at CD c1 c2 hc0
 obtain⟨r1,r2⟩:=uw P Q
 by_cases he:nx=ny
 ·(
 have hcd:(cd==0)=true:=beq_iff_eq.2 (hc0.2 (by omega))
 have hR:Hid (vw P Q=vw x y):=by show _=_;rw[← hP,← hQ,he];exact ztb x y ny hgd
 obtain⟨s1,s2⟩:=uw x y
 have hCM:=af (fun W (h1:ze W xb 0 x) (h2:ze W yb 0 y)=>l5 xb 0 yb 0 x y W h1 h2 (by omega) (by omega))
 clear hc0
 go_enter func22,ntmps22
 go_wp2_with fail
 refine (ae DX _ (But.refl _ _)).mono ?_
 rintro e w1 ⟨q1,o1,rfl,hq1,hb1,hI1⟩
 have HI1:=af hI1
 have HB1:=af hb1
 clear hq1 hb1 hI1
 go_wp2_with fail
 refine (ae DY _ (ae HB1)).mono ?_
 rintro e w2 ⟨q2,o2,rfl,hq2,hb2,hI2⟩
 have HI2:=af hI2
 replace HI1:=af ((ae HI1).but hb2)
 replace HB1:=af ((ae HB1).trans' hb2)
 clear hq2 hb2 hI2
 go_wp2_with fail
 refine (ae CD _ _ _ _ _ (ae HI1) (ae HI2)).mono ?_
 rintro e w3 ⟨rfl,q,hq⟩
 clear CD
 have KB0:But [] w w3:=by rw[hq];exact (ae HB1).drewN _
 have gx:=ae NX _ KB0
 have gy:=ae NY _ KB0
 have HB0:=af KB0
 clear hq KB0 lx ly HB1 HI1 HI2
 go_wp2
 go_quiet ((go_at_call 84;refine Calls.quiet_of (ae hCM _ ?_ ?_);(first | exact gx | exact ze.but gx (by first | exact But.refl _ _ | exact (But.refl _ _).drewN _));(first | exact gy | exact ze.but gy (by first | exact But.refl _ _ | exact (But.refl _ _).drewN _))))
 have FF:=ae FIN (vw x y) (ae hR).symm
 generalize vw x y=cc at *
 go_wp2
 go_ret
 exact⟨cc,rfl,FF.1,FF.2,(ae HB0).drewN _⟩)
 ·(
 have hcd:(cd==0)=false:=beq_eq_false_iff_ne.2 (fun h=>he (by have:=hc0.1 h;omega))
 clear hc0
 go_enter func22,ntmps22
 go_wp2_with fail
 refine (ae DX _ (But.refl _ _)).mono ?_
 rintro e w1 ⟨q1,o1,rfl,hq1,hb1,hI1⟩
 have HI1:=af hI1
 have HB1:=af hb1
 clear hq1 hb1 hI1
 go_wp2_with fail
 refine (ae DY _ (ae HB1)).mono ?_
 rintro e w2 ⟨q2,o2,rfl,hq2,hb2,hI2⟩
 have HI2:=af hI2
 replace HI1:=af ((ae HI1).but hb2)
 replace HB1:=af ((ae HB1).trans' hb2)
 clear hq2 hb2 hI2
 go_wp2_with fail
 refine (ae CD _ _ _ _ _ (ae HI1) (ae HI2)).mono ?_
 rintro e w3 ⟨rfl,q,hq⟩
 clear CD
 have KB0:But [] w w3:=by rw[hq];exact (ae HB1).drewN _
 have hsz:=KB0.size
 have HB0:=af KB0
 clear hq KB0 HB1 HI1 HI2
 go_wp2
 go_region_with (first
  | (go_at_call_of 83 (Value.pointer (some ⟨yb,0,none⟩));refine (ae DY _ ?_).mono ?_;(refine (ae HB0).trans' ?_;(repeat (first | exact But.refl _ _ | apply But.drew | apply But.alloc)));rintro e W0 ⟨qy,oy,rfl,hqy,hby,hIy⟩)
  | (go_at_call_of 85 (Value.pointer (some ⟨xb,0,none⟩));refine (oz _ xb 0 qy oy x (ny:Int) P hP w _ ?_ ?_ ?_ ?_ ?_ ?_ ?_ lf1' (by rw[Int.natAbs_natCast];exact d2') hPl).mono ?_;(first | exact jb _ _ | exact zks _ _ | exact zgc _ _ _ | exact zgb _ _ _ | exact Slot.but (jb w3 111) (show But [] _ _ by (repeat (first | exact hby | exact But.refl _ _ | refine But.trans' ?_ hby | apply But.drew | apply But.alloc))) (by simp) | exact Slot.but (ul w3 (.cells #[.bool false,.slice none 0 0] 111) 111) (show But [] _ _ by (repeat (first | exact hby | exact But.refl _ _ | refine But.trans' ?_ hby | apply But.drew | apply But.alloc))) (by simp) | exact Slot.but (jb W0 111) (show But [] _ _ by (repeat (first | exact hby | exact But.refl _ _ | refine But.trans' ?_ hby | apply But.drew | apply But.alloc))) (by simp) | exact Slot.but (ul W0 (.cells #[.bool false,.slice none 0 0] 111) 111) (show But [] _ _ by (repeat (first | exact hby | exact But.refl _ _ | refine But.trans' ?_ hby | apply But.drew | apply But.alloc))) (by simp));(refine (ae HB0).trans' ?_;(repeat (first | exact hby | exact But.refl _ _ | refine But.trans' ?_ hby | apply But.drew | apply But.alloc)));(first | omega | (have z1:=hby.size;have z2:=hIy.lt;simp at z1 hqy;omega) | (have z1:=hby.size;have z2:=hIy.lt;simp at z1;omega) | (have z1:=hby.size;have z2:=hIy.lt;simp at hqy;omega) | (have z1:=hby.size;have z2:=hIy.lt;omega));(refine ae NX _ ((ae HB0).trans' ?_);(repeat (first | exact hby | exact But.refl _ _ | refine But.trans' ?_ hby | apply But.drew | apply But.alloc)));(refine ze.but hIy ?_;(repeat (first | exact But.refl _ _ | apply But.drew | apply But.alloc)));(first | omega | (have z1:=hby.size;have z2:=hIy.lt;simp at z1 hqy;omega) | (have z1:=hby.size;have z2:=hIy.lt;simp at z1;omega) | (have z1:=hby.size;have z2:=hIy.lt;simp at hqy;omega) | (have z1:=hby.size;have z2:=hIy.lt;omega));(first | omega | (have z1:=hby.size;have z2:=hIy.lt;simp at z1 hqy;omega) | (have z1:=hby.size;have z2:=hIy.lt;simp at z1;omega) | (have z1:=hby.size;have z2:=hIy.lt;simp at hqy;omega) | (have z1:=hby.size;have z2:=hIy.lt;omega));rintro e W1 ⟨rfl,KB1,KA1,KS1,KI1,KL1⟩)
  | (go_at_call_of 83 (Value.pointer (some ⟨xb,0,none⟩));refine (ae DX _ ?_).mono ?_;(refine KB1.trans' ?_;(repeat (first | exact But.refl _ _ | apply But.drew | apply But.alloc)));rintro e W2 ⟨qx,ox,rfl,hqx,hbx,hIx⟩)
  | (go_at_call_of 85 (Value.pointer (some ⟨yb,0,none⟩));refine (oz _ yb 0 qx ox y (nx:Int) Q hQ w _ ?_ ?_ ?_ ?_ ?_ ?_ ?_ lg1' (by rw[Int.natAbs_natCast];exact d1') hQl).mono ?_;(first | exact jb _ _ | exact zks _ _ | exact zgc _ _ _ | exact zgb _ _ _ | exact Slot.but (jb W1 111) (show But [] _ _ by (repeat (first | exact hbx | exact But.refl _ _ | refine But.trans' ?_ hbx | apply But.drew | apply But.alloc))) (by simp) | exact Slot.but (ul W1 (.cells #[.bool false,.slice none 0 0] 111) 111) (show But [] _ _ by (repeat (first | exact hbx | exact But.refl _ _ | refine But.trans' ?_ hbx | apply But.drew | apply But.alloc))) (by simp) | exact Slot.but (jb W2 111) (show But [] _ _ by (repeat (first | exact hbx | exact But.refl _ _ | refine But.trans' ?_ hbx | apply But.drew | apply But.alloc))) (by simp) | exact Slot.but (ul W2 (.cells #[.bool false,.slice none 0 0] 111) 111) (show But [] _ _ by (repeat (first | exact hbx | exact But.refl _ _ | refine But.trans' ?_ hbx | apply But.drew | apply But.alloc))) (by simp) | exact Slot.but (KS1 _ (by (first | omega | (have z1:=hby.size;have z2:=hIy.lt;simp at z1 hqy;omega) | (have z1:=hby.size;have z2:=hIy.lt;simp at z1;omega) | (have z1:=hby.size;have z2:=hIy.lt;simp at hqy;omega) | (have z1:=hby.size;have z2:=hIy.lt;omega))) (by (first | exact jb _ _ | exact zks _ _ | exact zgc _ _ _ | exact zgb _ _ _ | exact Slot.but (jb w3 111) (show But [] _ _ by (repeat (first | exact hby | exact But.refl _ _ | refine But.trans' ?_ hby | apply But.drew | apply But.alloc))) (by simp) | exact Slot.but (ul w3 (.cells #[.bool false,.slice none 0 0] 111) 111) (show But [] _ _ by (repeat (first | exact hby | exact But.refl _ _ | refine But.trans' ?_ hby | apply But.drew | apply But.alloc))) (by simp) | exact Slot.but (jb W0 111) (show But [] _ _ by (repeat (first | exact hby | exact But.refl _ _ | refine But.trans' ?_ hby | apply But.drew | apply But.alloc))) (by simp) | exact Slot.but (ul W0 (.cells #[.bool false,.slice none 0 0] 111) 111) (show But [] _ _ by (repeat (first | exact hby | exact But.refl _ _ | refine But.trans' ?_ hby | apply But.drew | apply But.alloc))) (by simp)))) (show But [] _ _ by (repeat (first | exact hbx | exact But.refl _ _ | refine But.trans' ?_ hbx | apply But.drew | apply But.alloc))) (by simp));(refine KB1.trans' ?_;(repeat (first | exact hbx | exact But.refl _ _ | refine But.trans' ?_ hbx | apply But.drew | apply But.alloc)));(have z1:=hby.size;have z2:=hIy.lt;have z3:=hbx.size;have z4:=hIx.lt;have z5:=KA1.lt;have z6:=KL1;have z7:=KB1.size;(try simp at z1);(try simp at z3);(try simp at z6);(try simp at hqx);(try simp at hqy);omega);(refine ae NY _ (KB1.trans' ?_);(repeat (first | exact hbx | exact But.refl _ _ | refine But.trans' ?_ hbx | apply But.drew | apply But.alloc)));(refine ze.but hIx ?_;(repeat (first | exact But.refl _ _ | apply But.drew | apply But.alloc)));(have z1:=hby.size;have z2:=hIy.lt;have z3:=hbx.size;have z4:=hIx.lt;have z5:=KA1.lt;have z6:=KL1;have z7:=KB1.size;(try simp at z1);(try simp at z3);(try simp at z6);(try simp at hqx);(try simp at hqy);omega);(have z1:=hby.size;have z2:=hIy.lt;have z3:=hbx.size;have z4:=hIx.lt;have z5:=KA1.lt;have z6:=KL1;have z7:=KB1.size;(try simp at z1);(try simp at z3);(try simp at z6);(try simp at hqx);(try simp at hqy);omega);rintro e W3 ⟨rfl,KB2,KA2,KS2,KI2,KL2⟩)
  | (go_at_call 84;refine (l5 _ 0 _ 0 P Q _ (KI2 _ _ _ ?_ ?_) KA2 (by omega) (by omega)).mono ?_;(have z1:=hby.size;have z2:=hIy.lt;have z3:=hbx.size;have z4:=hIx.lt;have z5:=KA1.lt;have z6:=KL1;have z7:=KB1.size;(try simp at z1);(try simp at z3);(try simp at z6);(try simp at hqx);(try simp at hqy);omega);(refine KA1.but ?_;(repeat (first | exact hbx | exact But.refl _ _ | refine But.trans' ?_ hbx | apply But.drew | apply But.alloc)));rintro e W4 ⟨rfl,q3,rfl⟩))
 all_goals
  have FF:=ae FIN (vw P Q) rfl
  go_wp2
 all_goals go_ret
 all_goals exact⟨_,rfl,FF.1,FF.2,KB2.trans' ((But.refl _ _).drewN _)⟩))
end Go.Proofs.YtagmkkiagjmimaaGreatDoor
