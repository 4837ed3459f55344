/- The part of a debt that is due at anothe -/
import Derived.Test.YtpfnnhjnakmnoaaGreatDoorKMVS
namespace Go.Proofs.YtpfnnhjnakmnoaaGreatDoor
open Go.RowKit
set_option maxHeartbeats 16000000
set_option maxRecDepth 100000
theorem in_prodT {P:Program} {f:FuncId} {args:Array Value} {w:World} {r:Rat} (h:Calls P f args w fun e w'=>∃ v,e=.returned (.tuple #[v,.nilIface])∧FracAt w' v r∧But [] w w') :
  Calls P f args w fun e w'=>∃ z:FZ,e=.returned (.tuple #[.agg #[.bool z.1,.int .u64 z.2.1,.int .u64 z.2.2.1,.pointer z.2.2.2],.nilIface])∧FracAt w' (.agg #[.bool z.1,.int .u64 z.2.1,.int .u64 z.2.2.1,.pointer z.2.2.2]) r∧But [] w w' :=
 h.mono fun _ _ ⟨v,h1,h2,h3⟩=>by
  obtain ⟨x,y,p,rfl,-⟩:=id h2.agg
  exact ⟨(_,x,y,p),h1,h2,h3⟩
theorem moved_any (vd vr:Value) (D f pt r2:Rat) (sp:Bool) (xp yp ta tt tb:Int) (w:World) (hd:FracAt w vd D) (hr:FracAt w vr f) (ld:Len D 1000) (lr:Len f 1000) (lpt:Len pt 1000) (lr2:Len r2 10000) (a0:0≤ta) (a1:ta<1000) (t0:0≤tt) (t1:tt<1000) (b0:0≤tb) (b1:tb<1000)
  (OF:∀ W,Calls Tryz.prog 28 #[.int .i64 (tb-ta),.int .i64 (tb-tt)] W fun e w'=>e=.returned (.tuple #[.agg #[.bool sp,.int .u64 xp,.int .u64 yp,.pointer none],.nilIface])∧But [] W w') (FO:∀ W,FracAt W (.agg #[.bool sp,.int .u64 xp,.int .u64 yp,.pointer none]) pt)
  (PW:∀ W vy,FracAt W vy (1+f)→Calls Tryz.prog 99 #[vy,.int .i64 (tt-ta)] W fun e w'=>∃ v',e=.returned (.tuple #[v',.nilIface])∧FracAt w' v' r2∧But [] W w') :
  Calls Tryz.prog 46 #[vd,.int .i64 ta,.int .i64 tt,.int .i64 tb,vr] w fun e w'=>∃ v,e=.returned v∧FracAt w' v (D*pt*r2)∧But [] w w':=by
 obtain ⟨s9,x9,FW,CW⟩:=whole_is 1 (by omega) (by omega)
 have AD:=hide (fun W (h1:FracAt W vr f)=>in_prod (r:=1+f) (fracAdd_any _ vr _ f W (FW W) h1 ((len_int 1 (by decide)).mono (by omega)) (lr.mono (by omega))))
 have MU:=hide (fun W (h1:FracAt W vd D)=>in_prod (fracMul_any vd (.agg #[.bool sp,.int .u64 xp,.int .u64 yp,.pointer none]) D pt W h1 (FO W) (ld.mono (by omega)) (lpt.mono (by omega))))
 have MV:=hide (fun W y z (h1:FracAt W y (D*pt)) (h2:FracAt W z r2)=>in_prod (fracMul_any y z _ _ W h1 h2 (len_mul ld lpt _ (by omega)) (lr2.mono (by omega))))
 have HD:=hide hd
 have HR:=hide hr
 have CWH:=hide CW
 have OFH:=hide OF
 have PWH:=hide PW
 obtain ⟨x1,y1,p1,rfl,-⟩:=id hd.agg
 obtain ⟨x2,y2,p2,rfl,-⟩:=id hr.agg
 generalize decide (D.num<0)=s1 at *
 generalize decide (f.num<0)=s2 at *
 clear hd hr ld lr lpt lr2 FW CW OF FO PW
 obtain ⟨V1,hV1⟩:∃ V1,V1=w.alloc (.cells #[.bool s1,.int .u64 x1,.int .u64 y1,.pointer p1] 27):=⟨_,rfl⟩
 obtain ⟨V2,hV2⟩:∃ V2,V2=V1.alloc (.cells #[.bool s2,.int .u64 x2,.int .u64 y2,.pointer p2] 27):=⟨_,rfl⟩
 obtain ⟨W1,hW1⟩:∃ W1,W1=V2.alloc (.cells #[.bool false,.int .u64 0,.int .u64 0,.pointer none] 27):=⟨_,rfl⟩
 have b1':But [] w V1:=by rw [hV1];exact (But.refl _ _).alloc _
 have b2':But [] V1 V2:=by rw [hV2];exact (But.refl _ _).alloc _
 have b3':But [] V2 W1:=by rw [hW1];exact (But.refl _ _).alloc _
 have z1:V1.heap.size=w.heap.size+1:=by rw [hV1];simp
 have z2:V2.heap.size=w.heap.size+2:=by rw [hV2];simp [z1]
 have c5:P4o V1 w.heap.size 0 s1 x1 y1 p1:=by rw [hV1];exact ⟨by simp,by simp,by simp,by simp⟩
 have c9:P4o V2 V1.heap.size 0 s2 x2 y2 p2:=by rw [hV2];exact ⟨by simp,by simp,by simp,by simp⟩
 have x10:NewB w.heap.size W1 V2.heap.size [.bool false,.int .u64 0,.int .u64 0,.pointer none]:=by
  rw [hW1]
  exact NewB.made _ V2 [.bool false,.int .u64 0,.int .u64 0,.pointer none] _ (by omega)
 have HW:Hid (W1=((w.alloc (.cells #[.bool s1,.int .u64 x1,.int .u64 y1,.pointer p1] 27)).alloc (.cells #[.bool s2,.int .u64 x2,.int .u64 y2,.pointer p2] 27)).alloc (.cells #[.bool false,.int .u64 0,.int .u64 0,.pointer none] 27)):=by show _=_;rw [hW1,hV2,hV1]
 obtain ⟨g5,hg5⟩:∃ g,g=w.heap.size:=⟨_,rfl⟩
 obtain ⟨g9,hg9⟩:∃ g,g=w.heap.size+1:=⟨_,rfl⟩
 obtain ⟨g10,hg10⟩:∃ g,g=w.heap.size+2:=⟨_,rfl⟩
 have C5:Hid (P4o W1 g5 0 s1 x1 y1 p1):=by show P4o _ _ _ _ _ _ _;rw [hg5];exact (c5.but b2' (by simp)).but b3' (by simp)
 have C9:Hid (P4o W1 g9 0 s2 x2 y2 p2):=by show P4o _ _ _ _ _ _ _;rw [hg9,← z1];exact c9.but b3' (by simp)
 have X10:Hid (NewB w.heap.size W1 g10 [.bool false,.int .u64 0,.int .u64 0,.pointer none]):=by show NewB _ _ _ _;rw [hg10,← z2];exact x10
 have B1:=hide ((b1'.trans' b2').trans' b3')
 clear b1' b2' b3' z1 z2 c5 c9 x10 hW1 hV2 hV1 V1 V2
 go_enter Tryz.func46,Tryz.ntmps46
 go_wp2_with fail
 rw [← unhide HW]
 try rw [show w.heap.size+1+1=w.heap.size+2 from rfl]
 rw [← hg10,← hg9,← hg5]
 have Q10:Hid (w.heap.size≤g10):=by show _≤_;omega
 clear HW hg5 hg9 hg10
 refine (unhide OFH W1).mono ?_
 rintro e w2 ⟨rfl,hb2⟩
 obtain ⟨V3,hV3⟩:∃ V3,V3=w2.alloc (.cells #[.bool sp,.int .u64 xp,.int .u64 yp,.pointer none] 27):=⟨_,rfl⟩
 have bV:But [] w2 V3:=by rw [hV3];exact (But.refl _ _).alloc _
 obtain ⟨g11,hg11⟩:∃ g,g=w2.heap.size:=⟨_,rfl⟩
 have C11:Hid (P4o V3 g11 0 sp xp yp none):=by show P4o _ _ _ _ _ _ _;rw [hV3,hg11];exact ⟨by simp,by simp,by simp,by simp⟩
 have bb:=hb2.trans' bV
 have C5':=hide ((unhide C5).but bb (by simp))
 have C9':=hide ((unhide C9).but bb (by simp))
 have X10':=hide ((unhide X10).but bb)
 have B2:=hide ((unhide B1).trans' bb)
 have HV:=hide hV3
 clear bV bb hV3 hb2 C5 C9 X10 B1 OFH
 go_wp2_with fail
 rw [← unhide HV,← hg11]
 clear HV hg11
 refine moved_region2 2 _ _ V3 g9 ta tt (tt-ta) (1+f) r2 s9 x9 0 none s2 x2 y2 p2 (by simp) (by simp [Act.eval]) (by simp [Act.eval]) (by simp [Act.eval]) rfl (by omega) (unhide C9') (unhide CWH) (fun W hb=>unhide AD W (((unhide HR).but (unhide B2)).but hb)) (fun W y _ hy=>in_prodT (unhide PWH W _ hy)) ?_
 intro za zb g13 w3 hP
 simp only [putted,List.foldl_cons,List.foldl_nil,Act.put,List.setIfInBounds_toArray,List.set_cons_zero,List.set_cons_succ]
 obtain ⟨V4,hV4⟩:∃ V,V=w3.setCells g13 0 [.bool zb.1,.int .u64 zb.2.1,.int .u64 zb.2.2.1,.pointer zb.2.2.2]:=⟨_,rfl⟩
 have hP3:=hP.f10 rfl
 have bV:But [g13] w3 V4:=by rw [hV4];exact but_setCells w3 g13 _ 0
 have x3:NewB V3.heap.size V4 g13 [.bool zb.1,.int .u64 zb.2.1,.int .u64 zb.2.2.1,.pointer zb.2.2.2]:=by
  have:=hP3.put (us:=[.bool zb.1,.int .u64 zb.2.1,.int .u64 zb.2.2.1,.pointer zb.2.2.2]) rfl
  rw [← hV4] at this
  exact this
 have n10:g10≠g13:=by have:=hP3.new;have:=(unhide X10').lt;omega
 have cb:∀ g ∈ [g13],∃ s,w3.cell? ⟨g,0,none⟩=some (.bool s):=fun g hg=>by simp at hg;subst hg;exact ⟨_,hP3.cells 0 _ rfl⟩
 have l5:g5<V3.heap.size:=lt_of_cell (unhide C5').1
 have l11:g11<V3.heap.size:=lt_of_cell (unhide C11).1
 have F4:=hide ((hP.f6 rfl).beside bV cb)
 have X4:=hide (((unhide X10').but hP.mem).beside bV (by simpa using n10))
 have C54:=hide (((unhide C5').but hP.mem (by simp)).but bV (by have:=hP3.new;simp;omega))
 have C114:=hide (((unhide C11).but hP.mem (by simp)).but bV (by have:=hP3.new;simp;omega))
 have B4:=hide (((unhide B2).trans' hP.mem).trans bV (fun x hx=>by simp at hx;subst hx;exact .inr (by have:=hP3.new;have:=(unhide B2).size;omega)))
 have C134:Hid (P4o V4 g13 0 zb.1 zb.2.1 zb.2.2.1 zb.2.2.2):=⟨x3.cells 0 _ rfl,x3.cells 1 _ rfl,x3.cells 2 _ rfl,x3.cells 3 _ rfl⟩
 rw [← hV4]
 clear hP hP3 bV x3 cb hV4 X10' C5' C9' C11 B2 l5 l11 AD PWH n10 w3
 go_wp2_with fail
 have x4:=unhide X4
 refine moved_region3 3 _ _ V4 g5 g10 g11 g13 (D*pt) (D*pt*r2) s1 x1 y1 p1 sp xp yp none zb.1 zb.2.1 zb.2.2.1 zb.2.2.2 (by simp) (by simp [Act.eval]) (by simp [Act.eval]) (by simp [Act.eval]) (by simp [Act.eval]) (unhide C54) (unhide C114) (unhide C134) (fun k hk=>⟨_,x4.cells k _ (List.getElem?_eq_getElem (by simpa using hk))⟩) x4.loose (fun W hb=>unhide MU W (((unhide HD).but (unhide B4)).but hb)) (fun W y hb hy=>unhide MV W _ _ hy ((unhide F4).but hb)) ?_
 intro zc zd w5 hP
 obtain ⟨rs,rx,ry,rp⟩:=zd
 simp only [putted,List.foldl_cons,List.foldl_nil,Act.put,List.setIfInBounds_toArray,List.set_cons_zero,List.set_cons_succ]
 have y2':=(x4.but hP.mem).put (us:=[.bool rs,.int .u64 rx,.int .u64 ry,.pointer rp]) rfl
 have hb5:=but_setCells w5 g10 [.bool rs,.int .u64 rx,.int .u64 ry,.pointer rp] 0
 have cb:∀ g ∈ [g10],∃ s,w5.cell? ⟨g,0,none⟩=some (.bool s):=fun g hg=>by simp at hg;subst hg;exact ⟨_,(x4.but hP.mem).cells 0 _ rfl⟩
 have FO:=hide ((hP.f4 rfl).beside hb5 cb)
 have BF:=hide (((unhide B4).trans' hP.mem).trans hb5 (fun x hx=>by simp at hx;subst hx;exact .inr (unhide Q10)))
 have m0:=y2'.cells 0 _ rfl
 have m1:=y2'.cells 1 _ rfl
 have m2:=y2'.cells 2 _ rfl
 have m3:=y2'.cells 3 _ rfl
 clear y2' hb5 cb hP x4 X4 F4 B4 C54 C114 C134 MU MV
 generalize w5.setCells g10 0 [.bool rs,.int .u64 rx,.int .u64 ry,.pointer rp]=F at *
 go_wp2
 exact bodyPost_ret (v:=.agg #[.bool rs,.int .u64 rx,.int .u64 ry,.pointer rp]) (by simp [results,Tryz.results46,go_sem,m0,m1,m2,m3]) rfl ⟨_,rfl,unhide FO,unhide BF⟩
end Go.Proofs.YtpfnnhjnakmnoaaGreatDoor

namespace Go.Proofs.YtpfnnhjnakmnoaaGreatDoor
open Go.RowKit
theorem rpow_isV (f:Rat):∀ n,rpow f n=f^n
 | 0=>by rw [Rat.pow_zero];rfl
 | n+1=>by
  rw [Rat.pow_succ,← rpow_isV f n]
  first
   | rfl
   | (show f*rpow f n=rpow f n*f;exact Rat.mul_comm _ _)
theorem len_one (c:Nat) (hc:1≤c):Len (1:Rat) c:=(len_int 1 (by decide)).mono hc
theorem len_powV {f:Rat} {c:Nat} (lf:Len f c):∀ k,Len (f^k) (k*c+1)
 | 0=>by rw [Rat.pow_zero];exact len_one _ (by omega)
 | k+1=>by
  rw [Rat.pow_succ]
  exact len_mul (len_powV lf k) lf _ (by rw [Nat.succ_mul];omega)
theorem pow_num {f:Rat} {c k:Nat} (lf:Len (f^k) c):(wd 18446744073709551616 (f.num.natAbs^k)).length≤c∧(wd 18446744073709551616 (f.den^k)).length≤c:=by
 rw [← rpow_isV] at lf
 obtain ⟨h1,h2⟩:=rpow_parts f k
 refine ⟨?_,?_⟩
 ·have:=lf.1
  rw [h1,Int.natAbs_pow] at this
  exact this
 ·have:=lf.2
  rw [h2] at this
  exact this
end Go.Proofs.YtpfnnhjnakmnoaaGreatDoor

namespace Go.Proofs.YtpfnnhjnakmnoaaGreatDoor
open Go.RowKit
set_option maxHeartbeats 16000000
set_option maxRecDepth 100000
theorem numpos_iff (x:Rat):0<x.num↔0<x:=by
 rw [Rat.lt_iff]
 simp
theorem fracPow_inv (v:Value) (f:Rat) (k:Nat) (w:World) (hf:FracAt w v f) (h0:0<f.num) (hk0:0<k) (hk:k≤200) (l1:(wd 18446744073709551616 (f.num.natAbs^k)).length≤10000) (l2:(wd 18446744073709551616 (f.den^k)).length≤10000) (lf:Len f 10000) :
  Calls Tryz.prog 99 #[v,.int .i64 (-(k:Int))] w fun e w'=>∃ v',e=.returned (.tuple #[v',.nilIface])∧FracAt w' v' (rpow f⁻¹ k)∧But [] w w':=by
 obtain ⟨i1,i2,i3⟩:=inv_facts f (Int.ne_of_gt h0)
 obtain ⟨g,hg⟩:∃ g,g=rpow f⁻¹ k:=⟨_,rfl⟩
 obtain ⟨gn,gd⟩:=rpow_parts f⁻¹ k
 rw [← hg] at gn gd ⊢
 obtain ⟨sv,hsv⟩:∃ sv,sv=f.num.sign:=⟨_,rfl⟩
 have hsv0:(sv==0)=false:=beq_eq_false_iff_ne.2 (by rw [hsv];exact fun h=>Int.ne_of_gt h0 (Int.sign_eq_zero_iff_zero.1 h))
 have SG:=hide (fun W (hb:But [] w W)=>fracSign_any v f W (hf.but hb))
 rw [← hsv] at SG
 have TU:=hide (fun W (hb:But [] w W)=>fracTurned_any v f W (hf.but hb) (Int.ne_of_gt h0))
 have NU:Hid (∀ W u,FracAt W u f⁻¹→Calls Tryz.prog 30 #[u] W fun e w'=>∃ v1 v2,e=.returned (.tuple #[v1,v2])∧Sl .u64 w' v1 (wd 18446744073709551616 f.den)∧Sl .u64 w' v2 (wd 18446744073709551616 f.num.natAbs)∧But [] W w'):=fun W u hu=>by
  have:=numbers_any u f⁻¹ W hu
  rw [i1,i2] at this
  exact this
 have P1:Hid (∀ W u,Sl .u64 W u (wd 18446744073709551616 f.den)→Calls Tryz.prog 135 #[u,.int .i64 (k:Int)] W fun e w'=>∃ v',e=.returned v'∧Sl .u64 w' v' (wd 18446744073709551616 (f.den^k))∧But [] W w'):=fun W u hu=>natPow_all u _ k W hu (by omega) (by have:=lf.2;omega)
 have P2:Hid (∀ W u,Sl .u64 W u (wd 18446744073709551616 f.num.natAbs)→Calls Tryz.prog 135 #[u,.int .i64 (k:Int)] W fun e w'=>∃ v',e=.returned v'∧Sl .u64 w' v' (wd 18446744073709551616 (f.num.natAbs^k))∧But [] W w'):=fun W u hu=>natPow_all u _ k W hu (by omega) (by have:=lf.1;omega)
 obtain ⟨bl,hbl⟩:∃ bl,bl=(decide (f⁻¹.num<0) && decide (k%2=1)):=⟨_,rfl⟩
 have ga':g.num.natAbs=f.den^k:=by rw [gn,Int.natAbs_pow,i1]
 have gd':g.den=f.num.natAbs^k:=by rw [gd,i2]
 have OL:Hid (∀ W v1 v2,Sl .u64 W v1 (wd 18446744073709551616 (f.den^k))→Sl .u64 W v2 (wd 18446744073709551616 (f.num.natAbs^k))→Calls Tryz.prog 122 #[.bool bl,v1,v2] W fun e w'=>∃ v,e=.returned v∧FracAt w' v g∧But [] W w'):=fun W v1 v2 h1 h2=>ofLowered_any bl v1 v2 g W (by rw [ga'];exact h1) (by rw [gd'];exact h2) (by rw [ga',gn,hbl,← i1];exact pow_sign f⁻¹.num k) (by rw [ga'];omega) (by rw [gd'];omega)
 obtain ⟨x1,y1,p1,rfl,-⟩:=hf.agg
 obtain ⟨s5,hs5⟩:∃ s5,s5=decide (f⁻¹.num<0):=⟨_,rfl⟩
 have hs3:decide (f⁻¹.num<0)=s5:=hs5.symm
 rw [hs3] at hbl
 have hs5':s5=false:=by rw [hs5];exact decide_eq_false (by have:=Rat.inv_pos.2 ((numpos_iff f).1 h0);have:=(numpos_iff _).2 this;omega)
 subst hs5'
 have hbl':bl=false:=by rw [hbl];rfl
 subst hbl'
 clear hf i1 i2 i3 gn gd ga' gd' l1 l2 lf h0 hsv hs5 hbl hg
 generalize decide (f.num<0)=s1 at *
 obtain ⟨W,hW⟩:∃ W,W=((w.alloc (.cells #[.bool s1,.int .u64 x1,.int .u64 y1,.pointer p1] 27)).alloc (.cells #[.bool false,.int .u64 0,.int .u64 0,.pointer none] 27)):=⟨_,rfl⟩
 obtain ⟨tA,tC,fz,hB⟩:=two_new w W _ _ _ hW
 have fa:∀ j,W.frozen? ⟨w.heap.size,j,none⟩=false:=two_new_open w W _ _ _ hW
 have a0:=tA 0
 have a1:=tA 1
 have a2:=tA 2
 have a3:=tA 3
 have r0:=tC 0
 have r1:=tC 1
 have r2:=tC 2
 have r3:=tC 3
 simp only [List.getElem?_toArray,List.getElem?_cons_zero,List.getElem?_cons_succ] at a0 a1 a2 a3 r0 r1 r2 r3
 have BL:Hid (Blank W (w.heap.size+1)):=⟨r0,r1,r2,r3,fun j hj=>by rw [tC j];simp;omega⟩
 clear tA tC
 have HW:=hide hW
 have HB:=hide hB
 clear hW hB
 go_enter Tryz.func99,Tryz.ntmps99
 go_wp2_with fail
 rw [← unhide HW]
 obtain ⟨ga,hga⟩:∃ ga,ga=w.heap.size:=⟨_,rfl⟩
 obtain ⟨gr,hgr⟩:∃ gr,gr=w.heap.size+1:=⟨_,rfl⟩
 rw [← hga] at a0 a1 a2 a3 fa
 rw [← hgr] at r0 r1 r2 r3 fz BL
 rw [← hgr,← hga]
 have HGR:Hid (w.heap.size≤gr):=by show _≤_;omega
 have HGA:Hid (w.heap.size≤ga):=by show _≤_;omega
 have nga:ga≠gr:=by omega
 clear hga hgr HW
 have grl:gr<W.heap.size:=lt_of_cell r0
 have gal:ga<W.heap.size:=lt_of_cell a0
 refine (unhide SG _ (unhide HB)).mono ?_
 rintro e w1 ⟨rfl,hb1⟩
 have uf:∀ j,w1.frozen? ⟨gr,j,none⟩=false:=fun j=>(hb1.frozen (p:=⟨gr,j,none⟩) grl (by simp)).trans (fz j)
 have ua:∀ j,w1.frozen? ⟨ga,j,none⟩=false:=fun j=>(hb1.frozen (p:=⟨ga,j,none⟩) gal (by simp)).trans (fa j)
 have m0:=hb1.cell_some a0 (by simp)
 have m1:=hb1.cell_some a1 (by simp)
 have m2:=hb1.cell_some a2 (by simp)
 have m3:=hb1.cell_some a3 (by simp)
 have u0:=hb1.cell_some r0 (by simp)
 have u1:=hb1.cell_some r1 (by simp)
 have u2:=hb1.cell_some r2 (by simp)
 have u3:=hb1.cell_some r3 (by simp)
 have HB1:Hid (But [] w w1):=(unhide HB).trans' hb1
 have BL1:Hid (Blank w1 gr):=(unhide BL).but hb1
 clear hb1 a0 a1 a2 a3 r0 r1 r2 r3 fz fa grl gal BL
 go_wp2_with fail
 refine (unhide TU _ (unhide HB1)).mono ?_
 rintro e w2 ⟨v2,rfl,hf2,hb2⟩
 have HF2:=hide hf2
 obtain ⟨x2,y2,p2,rfl,-⟩:=hf2.agg
 clear hf2
 rw [hs3] at HF2 ⊢
 have gal:ga<w1.heap.size:=lt_of_cell m0
 have grl:gr<w1.heap.size:=lt_of_cell u0
 have va:∀ j,w2.frozen? ⟨ga,j,none⟩=false:=fun j=>(hb2.frozen (p:=⟨ga,j,none⟩) gal (by simp)).trans (ua j)
 have vr:∀ j,w2.frozen? ⟨gr,j,none⟩=false:=fun j=>(hb2.frozen (p:=⟨gr,j,none⟩) grl (by simp)).trans (uf j)
 have n0:=hb2.cell_some m0 (by simp)
 have n1:=hb2.cell_some m1 (by simp)
 have n2:=hb2.cell_some m2 (by simp)
 have n3:=hb2.cell_some m3 (by simp)
 have r0:=hb2.cell_some u0 (by simp)
 have r1:=hb2.cell_some u1 (by simp)
 have r2:=hb2.cell_some u2 (by simp)
 have r3:=hb2.cell_some u3 (by simp)
 have HB2:Hid (But [] w w2):=(unhide HB1).trans' hb2
 have BL2:Hid (Blank w2 gr):=(unhide BL1).but hb2
 clear hb2 m0 m1 m2 m3 u0 u1 u2 u3 uf ua gal grl BL1 HB1
 go_wp2_with fail
 obtain ⟨W3,hW3⟩:∃ W3,W3=((((w2.setCell ⟨ga,0,none⟩ (.bool false)).setCell ⟨ga,1,none⟩ (.int .u64 x2)).setCell ⟨ga,2,none⟩ (.int .u64 y2)).setCell ⟨ga,3,none⟩ (.pointer p2)):=⟨_,rfl⟩
 have hBg:But [ga] w2 W3:=by rw [hW3];exact (((((But.refl [ga] w2).setCell (.inl (by simp)) _).setCell (.inl (by simp)) _).setCell (.inl (by simp)) _).setCell (.inl (by simp)) _)
 have a0:W3.cell? ⟨ga,0,none⟩=some (.bool false):=by rw [hW3];simp [go_sem,n0]
 have ngr:gr ∉ [ga]:=by simpa using (Ne.symm nga)
 have s0:=hBg.cell_some r0 ngr
 have s1':=hBg.cell_some r1 ngr
 have s2:=hBg.cell_some r2 ngr
 have s3:=hBg.cell_some r3 ngr
 have grl2:gr<w2.heap.size:=lt_of_cell r0
 have sf:∀ j,W3.frozen? ⟨gr,j,none⟩=false:=fun j=>(hBg.frozen (p:=⟨gr,j,none⟩) grl2 ngr).trans (vr j)
 have HB3:Hid (But [] w W3):=by
  show But [] w W3
  rw [hW3]
  exact ((((unhide HB2).setCell (p:=⟨ga,0,none⟩) (.inr (unhide HGA)) _).setCell (p:=⟨ga,1,none⟩) (.inr (unhide HGA)) _).setCell (p:=⟨ga,2,none⟩) (.inr (unhide HGA)) _).setCell (p:=⟨ga,3,none⟩) (.inr (unhide HGA)) _
 have BL3:Hid (Blank W3 gr):=by
  obtain ⟨z0,z1,z2,z3,z4⟩:=unhide BL2
  exact ⟨hBg.cell_some z0 ngr,hBg.cell_some z1 ngr,hBg.cell_some z2 ngr,hBg.cell_some z3 ngr,fun j hj=>(hBg.cell (p:=⟨gr,j,none⟩) grl2 ngr).trans (z4 j hj)⟩
 rw [← hW3]
 have HF3:=(unhide HF2).over n0 hBg
 clear hW3 hBg n0 n1 n2 n3 r0 r1 r2 r3 vr va ngr grl2 BL2 HB2
 refine (unhide NU _ _ HF3).mono ?_
 rintro e w4 ⟨v1,v2,rfl,hs1,hs2,hb4⟩
 have HS1:=hide hs1
 have HS2:=hide hs2
 have grl3:gr<W3.heap.size:=lt_of_cell s0
 have uf:∀ j,w4.frozen? ⟨gr,j,none⟩=false:=fun j=>(hb4.frozen (p:=⟨gr,j,none⟩) grl3 (by simp)).trans (sf j)
 have c0:=hb4.cell_some a0 (by simp)
 have u0:=hb4.cell_some s0 (by simp)
 have u1:=hb4.cell_some s1' (by simp)
 have u2:=hb4.cell_some s2 (by simp)
 have u3:=hb4.cell_some s3 (by simp)
 have HB4:Hid (But [] w w4):=(unhide HB3).trans' hb4
 have BL4:Hid (Blank w4 gr):=(unhide BL3).but hb4
 have grl:gr<w4.heap.size:=lt_of_cell u0
 clear HF3 hs1 hs2 hb4 a0 s0 s1' s2 s3 sf grl3 BL3 HB3 HF2 NU SG TU
 go_wp2_with fail
 refine (unhide P1 _ _ (unhide HS1)).mono ?_
 rintro e wz1 ⟨vp1,rfl,hsp1,hz1⟩
 have HT1:=hide hsp1
 have HS2':=hide ((unhide HS2).but_nil hz1)
 have c1:=hz1.cell_some c0 (by simp)
 clear hsp1
 go_wp2_with fail
 refine (unhide P2 _ _ (unhide HS2')).mono ?_
 rintro e wz2 ⟨vp2,rfl,hsp2,hz2⟩
 have HT2:=hide hsp2
 have HT1':=hide ((unhide HT1).but_nil hz2)
 have c2:=hz2.cell_some c1 (by simp)
 have Bz2:=hz1.trans' hz2
 clear hsp2 hz1 hz2 c1 c0
 go_wp2_with fail
 refine (unhide OL _ _ _ (unhide HT1') (unhide HT2)).mono ?_
 rintro e wz3 ⟨vr,rfl,hvr,hz3⟩
 have Bz3:=Bz2.trans' hz3
 have HVR:=hide hvr
 obtain ⟨x8,y8,p8,rfl,-⟩:=hvr.agg
 clear hvr hz3 Bz2
 generalize decide (g.num<0)=r8 at *
 have q0:=Bz3.cell_some u0 (by simp)
 have q1:=Bz3.cell_some u1 (by simp)
 have q2:=Bz3.cell_some u2 (by simp)
 have q3:=Bz3.cell_some u3 (by simp)
 have qf:∀ j,wz3.frozen? ⟨gr,j,none⟩=false:=fun j=>(Bz3.frozen (p:=⟨gr,j,none⟩) grl (by simp)).trans (uf j)
 go_wp2
 have hBh:But [gr] wz3 ((((wz3.setCell ⟨gr,0,none⟩ (.bool r8)).setCell ⟨gr,1,none⟩ (.int .u64 x8)).setCell ⟨gr,2,none⟩ (.int .u64 y8)).setCell ⟨gr,3,none⟩ (.pointer p8)):=(((((But.refl [gr] wz3).setCell (.inl (by simp)) _).setCell (.inl (by simp)) _).setCell (.inl (by simp)) _).setCell (.inl (by simp)) _)
 have hBf:=(((((unhide HB4).trans' Bz3).setCell (p:=⟨gr,0,none⟩) (.inr (unhide HGR)) (.bool r8)).setCell (p:=⟨gr,1,none⟩) (.inr (unhide HGR)) (.int .u64 x8)).setCell (p:=⟨gr,2,none⟩) (.inr (unhide HGR)) (.int .u64 y8)).setCell (p:=⟨gr,3,none⟩) (.inr (unhide HGR)) (.pointer p8)
 exact bodyPost_ret (v:=.tuple #[.agg #[.bool r8,.int .u64 x8,.int .u64 y8,.pointer p8],.nilIface]) (by simp [results,Tryz.results99,go_sem,q0,q1,q2,q3]) rfl ⟨_,rfl,((unhide BL4).but Bz3).frac (unhide HVR) hBh,hBf⟩
end Go.Proofs.YtpfnnhjnakmnoaaGreatDoor

namespace Go.Proofs.YtpfnnhjnakmnoaaGreatDoor
open Go.RowKit
set_option maxHeartbeats 16000000
set_option maxRecDepth 100000
theorem pair_okX (vd vr:Value) (D f r1 r2:Rat) (ta th tb:Int) (w:World) (hd:FracAt w vd D) (hr:FracAt w vr f) (lf:Len f 1) (hf:-1<f) (hD:0≤D) (h1:0≤th) (h2:th<ta) (h3:ta<tb) (h4:tb≤120)
  (MA:∀ W,But [] w W→Calls Tryz.prog 46 #[vd,.int .i64 ta,.int .i64 th,.int .i64 tb,vr] W fun e w'=>∃ v,e=.returned v∧FracAt w' v r1∧But [] W w') (MB:∀ W,But [] w W→Calls Tryz.prog 46 #[vd,.int .i64 ta,.int .i64 tb,.int .i64 th,vr] W fun e w'=>∃ v,e=.returned v∧FracAt w' v r2∧But [] W w') :
  Calls Tryz.prog 13 #[vd,.int .i64 ta,.int .i64 th,.int .i64 tb,vr] w fun e w'=>∃ za zb:FZ,e=.returned (.tuple #[.agg #[.bool za.1,.int .u64 za.2.1,.int .u64 za.2.2.1,.pointer za.2.2.2],.agg #[.bool zb.1,.int .u64 zb.2.1,.int .u64 zb.2.2.1,.pointer zb.2.2.2],.nilIface])∧FracAt w' (.agg #[.bool za.1,.int .u64 za.2.1,.int .u64 za.2.2.1,.pointer za.2.2.2]) r1∧FracAt w' (.agg #[.bool zb.1,.int .u64 zb.2.1,.int .u64 zb.2.2.1,.pointer zb.2.2.2]) r2∧But [] w w':=by
 have AB:Hid (∀ W,But [] w W→Calls Tryz.prog 44 #[vr] W fun e w'=>e=.returned (.bool true)∧But [] W w'):=fun W hb=>by
  have:=matchAbove_any vr f W (hr.but hb) (lf.mono (by omega))
  rw [decide_eq_true hf] at this
  exact this
 have BE:Hid (∀ W,But [] w W→Calls Tryz.prog 45 #[vd] W fun e w'=>e=.returned (.bool false)∧But [] W w'):=fun W hb=>by
  have:=matchBelow_any vd D W (hd.but hb)
  rw [decide_eq_false (by grind)] at this
  exact this
 have MAH:=hide MA
 have MBH:=hide MB
 obtain ⟨x1,y1,p1,rfl,-⟩:=id hd.agg
 obtain ⟨x2,y2,p2,rfl,-⟩:=id hr.agg
 generalize decide (D.num<0)=s1 at *
 generalize decide (f.num<0)=s2 at *
 clear hd hr lf hf hD MA MB
 obtain ⟨V1,hV1⟩:∃ V1,V1=w.alloc (.cells #[.bool s1,.int .u64 x1,.int .u64 y1,.pointer p1] 27):=⟨_,rfl⟩
 obtain ⟨V2,hV2⟩:∃ V2,V2=V1.alloc (.cells #[.bool s2,.int .u64 x2,.int .u64 y2,.pointer p2] 27):=⟨_,rfl⟩
 obtain ⟨V3,hV3⟩:∃ V3,V3=V2.alloc (.cells #[.bool false,.int .u64 0,.int .u64 0,.pointer none] 27):=⟨_,rfl⟩
 obtain ⟨W1,hW1⟩:∃ W1,W1=V3.alloc (.cells #[.bool false,.int .u64 0,.int .u64 0,.pointer none] 27):=⟨_,rfl⟩
 have b1':But [] w V1:=by rw [hV1];exact (But.refl _ _).alloc _
 have b2':But [] V1 V2:=by rw [hV2];exact (But.refl _ _).alloc _
 have b3':But [] V2 V3:=by rw [hV3];exact (But.refl _ _).alloc _
 have b4':But [] V3 W1:=by rw [hW1];exact (But.refl _ _).alloc _
 have z1:V1.heap.size=w.heap.size+1:=by rw [hV1];simp
 have z2:V2.heap.size=w.heap.size+2:=by rw [hV2];simp [z1]
 have z3:V3.heap.size=w.heap.size+3:=by rw [hV3];simp [z2]
 have c5:NewB w.heap.size V1 w.heap.size [.bool s1,.int .u64 x1,.int .u64 y1,.pointer p1]:=by rw [hV1];exact NewB.made _ w _ _ (Nat.le_refl _)
 have c9:NewB w.heap.size V2 V1.heap.size [.bool s2,.int .u64 x2,.int .u64 y2,.pointer p2]:=by rw [hV2];exact NewB.made _ V1 _ _ (by omega)
 have x10:NewB w.heap.size V3 V2.heap.size [.bool false,.int .u64 0,.int .u64 0,.pointer none]:=by rw [hV3];exact NewB.made _ V2 [.bool false,.int .u64 0,.int .u64 0,.pointer none] _ (by omega)
 have x11:NewB w.heap.size W1 V3.heap.size [.bool false,.int .u64 0,.int .u64 0,.pointer none]:=by rw [hW1];exact NewB.made _ V3 [.bool false,.int .u64 0,.int .u64 0,.pointer none] _ (by omega)
 have HW:Hid (W1=(((w.alloc (.cells #[.bool s1,.int .u64 x1,.int .u64 y1,.pointer p1] 27)).alloc (.cells #[.bool s2,.int .u64 x2,.int .u64 y2,.pointer p2] 27)).alloc (.cells #[.bool false,.int .u64 0,.int .u64 0,.pointer none] 27)).alloc (.cells #[.bool false,.int .u64 0,.int .u64 0,.pointer none] 27)):=by show _=_;rw [hW1,hV3,hV2,hV1]
 obtain ⟨g5,hg5⟩:∃ g,g=w.heap.size:=⟨_,rfl⟩
 obtain ⟨g9,hg9⟩:∃ g,g=w.heap.size+1:=⟨_,rfl⟩
 obtain ⟨g10,hg10⟩:∃ g,g=w.heap.size+2:=⟨_,rfl⟩
 obtain ⟨g11,hg11⟩:∃ g,g=w.heap.size+3:=⟨_,rfl⟩
 have C5:Hid (NewB w.heap.size W1 g5 [.bool s1,.int .u64 x1,.int .u64 y1,.pointer p1]):=by show NewB _ _ _ _;rw [hg5];exact ((c5.but b2').but b3').but b4'
 have C9:Hid (NewB w.heap.size W1 g9 [.bool s2,.int .u64 x2,.int .u64 y2,.pointer p2]):=by show NewB _ _ _ _;rw [hg9,← z1];exact (c9.but b3').but b4'
 have X10:Hid (NewB w.heap.size W1 g10 [.bool false,.int .u64 0,.int .u64 0,.pointer none]):=by show NewB _ _ _ _;rw [hg10,← z2];exact x10.but b4'
 have X11:Hid (NewB w.heap.size W1 g11 [.bool false,.int .u64 0,.int .u64 0,.pointer none]):=by show NewB _ _ _ _;rw [hg11,← z3];exact x11
 have B1:=hide (((b1'.trans' b2').trans' b3').trans' b4')
 have Q4:Hid (w.heap.size≤g10∧w.heap.size≤g11):=⟨by omega,by omega⟩
 have n1:g11≠g10:=by omega
 clear b1' b2' b3' b4' z1 z2 z3 c5 c9 x10 x11 hW1 hV3 hV2 hV1 V1 V2 V3
 go_enter Tryz.func13,Tryz.ntmps13
 go_wp2_with fail
 rw [← unhide HW]
 try rw [show w.heap.size+1+1+1=w.heap.size+3 from rfl]
 try rw [show w.heap.size+1+1=w.heap.size+2 from rfl]
 rw [← hg11,← hg10,← hg9,← hg5]
 clear HW hg5 hg9 hg10 hg11
 refine (unhide AB W1 (unhide B1)).mono ?_
 rintro e w2 ⟨rfl,hb2⟩
 have B2:=hide ((unhide B1).trans' hb2)
 have c52:=(unhide C5).but hb2
 have C52:=hide c52
 have k0:=c52.cells 0 _ rfl
 have k1:=c52.cells 1 _ rfl
 have k2:=c52.cells 2 _ rfl
 have k3:=c52.cells 3 _ rfl
 have C92:=hide ((unhide C9).but hb2)
 have X102:=hide ((unhide X10).but hb2)
 have X112:=hide ((unhide X11).but hb2)
 clear c52 hb2 C5 C9 X10 X11 B1 AB
 go_wp2_with fail
 refine (unhide BE w2 (unhide B2)).mono ?_
 rintro e w3 ⟨rfl,hb3⟩
 have B3:=hide ((unhide B2).trans' hb3)
 have C53:=hide ((unhide C52).but hb3)
 have C93:=hide ((unhide C92).but hb3)
 have X103:=hide ((unhide X102).but hb3)
 have X113:=hide ((unhide X112).but hb3)
 clear hb3 C52 C92 X102 X112 B2 BE k0 k1 k2 k3
 go_wp2_with fail
 have x5:=unhide C53
 have x9:=unhide C93
 have x10:=unhide X103
 have x11:=unhide X113
 refine pair_region5 5 _ _ w3 g5 g9 g10 g11 ta th tb r1 r2 s1 x1 y1 p1 s2 x2 y2 p2 (by simp) (by simp [Act.eval]) (by simp [Act.eval]) (by simp [Act.eval]) (by simp [Act.eval]) (by simp [Act.eval]) (by simp [Act.eval]) (by simp [Act.eval]) ⟨x5.cells 0 _ rfl,x5.cells 1 _ rfl,x5.cells 2 _ rfl,x5.cells 3 _ rfl⟩ ⟨x9.cells 0 _ rfl,x9.cells 1 _ rfl,x9.cells 2 _ rfl,x9.cells 3 _ rfl⟩ (fun k hk=>⟨_,x10.cells k _ (List.getElem?_eq_getElem (by simpa using hk))⟩) x10.loose (fun k hk=>⟨_,x11.cells k _ (List.getElem?_eq_getElem (by simpa using hk))⟩) x11.loose n1 (fun W hb=>in_prod (unhide MAH W ((unhide B3).trans' hb))) (fun W hb=>in_prod (unhide MBH W ((unhide B3).trans' hb))) ?_
 intro za zb w5 hP
 simp only [putted,List.foldl_cons,List.foldl_nil,Act.put,List.setIfInBounds_toArray,List.set_cons_zero,List.set_cons_succ]
 have i10:=(x10.but hP.mem).put (us:=[.bool za.1,.int .u64 za.2.1,.int .u64 za.2.2.1,.pointer za.2.2.2]) rfl
 have hb5:=but_setCells w5 g10 [.bool za.1,.int .u64 za.2.1,.int .u64 za.2.2.1,.pointer za.2.2.2] 0
 have cb:∀ g ∈ [g10],∃ s,w5.cell? ⟨g,0,none⟩=some (.bool s):=fun g hg=>by simp at hg;subst hg;exact ⟨_,(x10.but hP.mem).cells 0 _ rfl⟩
 have i11:=(x11.but hP.mem).beside hb5 (by simpa using n1)
 have fa:=(hP.f5 rfl).beside hb5 cb
 have fb:=(hP.f11 rfl).beside hb5 cb
 have bw:=((unhide B3).trans' hP.mem).trans hb5 (fun x hx=>by simp at hx;subst hx;exact .inr (unhide Q4).1)
 generalize w5.setCells g10 0 [.bool za.1,.int .u64 za.2.1,.int .u64 za.2.2.1,.pointer za.2.2.2]=U at *
 have j11:=i11.put (us:=[.bool zb.1,.int .u64 zb.2.1,.int .u64 zb.2.2.1,.pointer zb.2.2.2]) rfl
 have hb6:=but_setCells U g11 [.bool zb.1,.int .u64 zb.2.1,.int .u64 zb.2.2.1,.pointer zb.2.2.2] 0
 have cb':∀ g ∈ [g11],∃ s,U.cell? ⟨g,0,none⟩=some (.bool s):=fun g hg=>by simp at hg;subst hg;exact ⟨_,i11.cells 0 _ rfl⟩
 have j10:=i10.beside hb6 (by simpa using n1.symm)
 have FA:=hide (fa.beside hb6 cb')
 have FB:=hide (fb.beside hb6 cb')
 have BF:=hide (bw.trans hb6 (fun x hx=>by simp at hx;subst hx;exact .inr (unhide Q4).2))
 have m0:=j10.cells 0 _ rfl
 have m1:=j10.cells 1 _ rfl
 have m2:=j10.cells 2 _ rfl
 have m3:=j10.cells 3 _ rfl
 have m4:=j11.cells 0 _ rfl
 have m5:=j11.cells 1 _ rfl
 have m6:=j11.cells 2 _ rfl
 have m7:=j11.cells 3 _ rfl
 clear hb5 hb6 cb cb' i10 i11 j10 j11 fa fb bw hP x5 x9 x10 x11 C53 C93 X103 X113 B3 MAH MBH
 generalize U.setCells g11 0 [.bool zb.1,.int .u64 zb.2.1,.int .u64 zb.2.2.1,.pointer zb.2.2.2]=FF at *
 go_wp2
 exact bodyPost_ret (v:=.tuple #[.agg #[.bool za.1,.int .u64 za.2.1,.int .u64 za.2.2.1,.pointer za.2.2.2],.agg #[.bool zb.1,.int .u64 zb.2.1,.int .u64 zb.2.2.1,.pointer zb.2.2.2],.nilIface]) (by simp [results,Tryz.results13,go_sem,m0,m1,m2,m3,m4,m5,m6,m7]) rfl ⟨za,zb,rfl,unhide FA,unhide FB,unhide BF⟩
end Go.Proofs.YtpfnnhjnakmnoaaGreatDoor

namespace Go.Proofs.YtpfnnhjnakmnoaaGreatDoor
open Go.RowKit
set_option maxHeartbeats 16000000
set_option maxRecDepth 100000
set_option linter.unusedVariables false
theorem pair_errA (vd vr:Value) (D f:Rat) (ta th tb:Int) (w:World) (hd:FracAt w vd D) (hr:FracAt w vr f) (lf:Len f 1) (hf:¬ -1<f) (h2:th<ta) (h3:ta<tb) (h1:0≤th) (h4:tb≤120) (h5:0≤ta) (h6:0≤tb) (h7:th≤120) (h8:ta≤120) :
  Calls Tryz.prog 13 #[vd,.int .i64 ta,.int .i64 th,.int .i64 tb,vr] w fun e w'=>e=.returned (.tuple #[.agg #[.bool false,.int .u64 0,.int .u64 0,.pointer none],.agg #[.bool false,.int .u64 0,.int .u64 0,.pointer none],.iface 33 (.int .i64 1)])∧But [] w w':=by
 have AB:Hid (∀ W,But [] w W→Calls Tryz.prog 44 #[vr] W fun e w'=>e=.returned (.bool false)∧But [] W w'):=fun W hb=>by
  have:=matchAbove_any vr f W (hr.but hb) (lf.mono (by omega))
  rw [decide_eq_false hf] at this
  exact this
 obtain ⟨x1,y1,p1,rfl,-⟩:=id hd.agg
 obtain ⟨x2,y2,p2,rfl,-⟩:=id hr.agg
 generalize decide (D.num<0)=s1 at *
 generalize decide (f.num<0)=s2 at *
 clear hd hr lf hf
 obtain ⟨V1,hV1⟩:∃ V1,V1=w.alloc (.cells #[.bool s1,.int .u64 x1,.int .u64 y1,.pointer p1] 27):=⟨_,rfl⟩
 obtain ⟨V2,hV2⟩:∃ V2,V2=V1.alloc (.cells #[.bool s2,.int .u64 x2,.int .u64 y2,.pointer p2] 27):=⟨_,rfl⟩
 obtain ⟨V3,hV3⟩:∃ V3,V3=V2.alloc (.cells #[.bool false,.int .u64 0,.int .u64 0,.pointer none] 27):=⟨_,rfl⟩
 obtain ⟨W1,hW1⟩:∃ W1,W1=V3.alloc (.cells #[.bool false,.int .u64 0,.int .u64 0,.pointer none] 27):=⟨_,rfl⟩
 have b1':But [] w V1:=by rw [hV1];exact (But.refl _ _).alloc _
 have b2':But [] V1 V2:=by rw [hV2];exact (But.refl _ _).alloc _
 have b3':But [] V2 V3:=by rw [hV3];exact (But.refl _ _).alloc _
 have b4':But [] V3 W1:=by rw [hW1];exact (But.refl _ _).alloc _
 have z1:V1.heap.size=w.heap.size+1:=by rw [hV1];simp
 have z2:V2.heap.size=w.heap.size+2:=by rw [hV2];simp [z1]
 have z3:V3.heap.size=w.heap.size+3:=by rw [hV3];simp [z2]
 have c5:NewB w.heap.size V1 w.heap.size [.bool s1,.int .u64 x1,.int .u64 y1,.pointer p1]:=by rw [hV1];exact NewB.made _ w _ _ (Nat.le_refl _)
 have c9:NewB w.heap.size V2 V1.heap.size [.bool s2,.int .u64 x2,.int .u64 y2,.pointer p2]:=by rw [hV2];exact NewB.made _ V1 _ _ (by omega)
 have x10:NewB w.heap.size V3 V2.heap.size [.bool false,.int .u64 0,.int .u64 0,.pointer none]:=by rw [hV3];exact NewB.made _ V2 [.bool false,.int .u64 0,.int .u64 0,.pointer none] _ (by omega)
 have x11:NewB w.heap.size W1 V3.heap.size [.bool false,.int .u64 0,.int .u64 0,.pointer none]:=by rw [hW1];exact NewB.made _ V3 [.bool false,.int .u64 0,.int .u64 0,.pointer none] _ (by omega)
 have HW:Hid (W1=(((w.alloc (.cells #[.bool s1,.int .u64 x1,.int .u64 y1,.pointer p1] 27)).alloc (.cells #[.bool s2,.int .u64 x2,.int .u64 y2,.pointer p2] 27)).alloc (.cells #[.bool false,.int .u64 0,.int .u64 0,.pointer none] 27)).alloc (.cells #[.bool false,.int .u64 0,.int .u64 0,.pointer none] 27)):=by show _=_;rw [hW1,hV3,hV2,hV1]
 obtain ⟨g5,hg5⟩:∃ g,g=w.heap.size:=⟨_,rfl⟩
 obtain ⟨g9,hg9⟩:∃ g,g=w.heap.size+1:=⟨_,rfl⟩
 obtain ⟨g10,hg10⟩:∃ g,g=w.heap.size+2:=⟨_,rfl⟩
 obtain ⟨g11,hg11⟩:∃ g,g=w.heap.size+3:=⟨_,rfl⟩
 have C5:Hid (NewB w.heap.size W1 g5 [.bool s1,.int .u64 x1,.int .u64 y1,.pointer p1]):=by show NewB _ _ _ _;rw [hg5];exact ((c5.but b2').but b3').but b4'
 have C9:Hid (NewB w.heap.size W1 g9 [.bool s2,.int .u64 x2,.int .u64 y2,.pointer p2]):=by show NewB _ _ _ _;rw [hg9,← z1];exact (c9.but b3').but b4'
 have X10:Hid (NewB w.heap.size W1 g10 [.bool false,.int .u64 0,.int .u64 0,.pointer none]):=by show NewB _ _ _ _;rw [hg10,← z2];exact x10.but b4'
 have X11:Hid (NewB w.heap.size W1 g11 [.bool false,.int .u64 0,.int .u64 0,.pointer none]):=by show NewB _ _ _ _;rw [hg11,← z3];exact x11
 have B1:=hide (((b1'.trans' b2').trans' b3').trans' b4')
 have Q4:Hid (w.heap.size≤g10∧w.heap.size≤g11):=⟨by omega,by omega⟩
 have n1:g11≠g10:=by omega
 clear b1' b2' b3' b4' z1 z2 z3 c5 c9 x10 x11 hW1 hV3 hV2 hV1 V1 V2 V3
 go_enter Tryz.func13,Tryz.ntmps13
 go_wp2_with fail
 rw [← unhide HW]
 try rw [show w.heap.size+1+1+1=w.heap.size+3 from rfl]
 try rw [show w.heap.size+1+1=w.heap.size+2 from rfl]
 rw [← hg11,← hg10,← hg9,← hg5]
 clear HW hg5 hg9 hg10 hg11
 refine (unhide AB W1 (unhide B1)).mono ?_
 rintro e w2 ⟨rfl,hb2⟩
 have B2:=hide ((unhide B1).trans' hb2)
 have X102:=hide ((unhide X10).but hb2)
 have X112:=hide ((unhide X11).but hb2)
 clear hb2 C5 C9 X10 X11 B1 AB
 obtain ⟨a0,qa0⟩:∃ u,w2.cell? ⟨g10,0,none⟩=some u:=⟨_,(unhide X102).cells 0 _ rfl⟩
 obtain ⟨a1,qa1⟩:∃ u,w2.cell? ⟨g10,1,none⟩=some u:=⟨_,(unhide X102).cells 1 _ rfl⟩
 obtain ⟨a2,qa2⟩:∃ u,w2.cell? ⟨g10,2,none⟩=some u:=⟨_,(unhide X102).cells 2 _ rfl⟩
 obtain ⟨a3,qa3⟩:∃ u,w2.cell? ⟨g10,3,none⟩=some u:=⟨_,(unhide X102).cells 3 _ rfl⟩
 have fza:=(unhide X102).loose
 obtain ⟨b0,qb0⟩:∃ u,w2.cell? ⟨g11,0,none⟩=some u:=⟨_,(unhide X112).cells 0 _ rfl⟩
 obtain ⟨b1,qb1⟩:∃ u,w2.cell? ⟨g11,1,none⟩=some u:=⟨_,(unhide X112).cells 1 _ rfl⟩
 obtain ⟨b2,qb2⟩:∃ u,w2.cell? ⟨g11,2,none⟩=some u:=⟨_,(unhide X112).cells 2 _ rfl⟩
 obtain ⟨b3,qb3⟩:∃ u,w2.cell? ⟨g11,3,none⟩=some u:=⟨_,(unhide X112).cells 3 _ rfl⟩
 have fzb:=(unhide X112).loose
 go_wp2
 show bodyPost _ _ _ _ _ ((w2.setCells g10 0 [.bool false,.int .u64 0,.int .u64 0,.pointer none]).setCells g11 0 [.bool false,.int .u64 0,.int .u64 0,.pointer none])
 have i10:=(unhide X102).put (us:=[.bool false,.int .u64 0,.int .u64 0,.pointer none]) rfl
 have hb5:=but_setCells w2 g10 [.bool false,.int .u64 0,.int .u64 0,.pointer none] 0
 have i11:=(unhide X112).beside hb5 (by simpa using n1)
 have bw:=(unhide B2).trans hb5 (fun x hx=>by simp at hx;subst hx;exact .inr (unhide Q4).1)
 generalize w2.setCells g10 0 [.bool false,.int .u64 0,.int .u64 0,.pointer none]=U at *
 have j11:=i11.put (us:=[.bool false,.int .u64 0,.int .u64 0,.pointer none]) rfl
 have hb6:=but_setCells U g11 [.bool false,.int .u64 0,.int .u64 0,.pointer none] 0
 have j10:=i10.beside hb6 (by simpa using n1.symm)
 have BF:=hide (bw.trans hb6 (fun x hx=>by simp at hx;subst hx;exact .inr (unhide Q4).2))
 have m0:=j10.cells 0 _ rfl
 have m4:=j11.cells 0 _ rfl
 have m1:=j10.cells 1 _ rfl
 have m5:=j11.cells 1 _ rfl
 have m2:=j10.cells 2 _ rfl
 have m6:=j11.cells 2 _ rfl
 have m3:=j10.cells 3 _ rfl
 have m7:=j11.cells 3 _ rfl
 clear hb5 hb6 i10 i11 j10 j11 bw
 generalize U.setCells g11 0 [.bool false,.int .u64 0,.int .u64 0,.pointer none]=FF at *
 exact bodyPost_ret (v:=.tuple #[.agg #[.bool false,.int .u64 0,.int .u64 0,.pointer none],.agg #[.bool false,.int .u64 0,.int .u64 0,.pointer none],.iface 33 (.int .i64 1)]) (by simp [results,Tryz.results13,go_sem,m0,m1,m2,m3,m4,m5,m6,m7]) rfl ⟨rfl,unhide BF⟩
theorem pair_errB (vd vr:Value) (D f:Rat) (ta th tb:Int) (w:World) (hd:FracAt w vd D) (hr:FracAt w vr f) (lf:Len f 1) (hf:-1<f) (hD:D<0) (h2:th<ta) (h3:ta<tb) (h1:0≤th) (h4:tb≤120) (h5:0≤ta) (h6:0≤tb) (h7:th≤120) (h8:ta≤120) :
  Calls Tryz.prog 13 #[vd,.int .i64 ta,.int .i64 th,.int .i64 tb,vr] w fun e w'=>e=.returned (.tuple #[.agg #[.bool false,.int .u64 0,.int .u64 0,.pointer none],.agg #[.bool false,.int .u64 0,.int .u64 0,.pointer none],.iface 33 (.int .i64 1)])∧But [] w w':=by
 have AB:Hid (∀ W,But [] w W→Calls Tryz.prog 44 #[vr] W fun e w'=>e=.returned (.bool true)∧But [] W w'):=fun W hb=>by
  have:=matchAbove_any vr f W (hr.but hb) (lf.mono (by omega))
  rw [decide_eq_true hf] at this
  exact this
 have BE:Hid (∀ W,But [] w W→Calls Tryz.prog 45 #[vd] W fun e w'=>e=.returned (.bool true)∧But [] W w'):=fun W hb=>by
  have:=matchBelow_any vd D W (hd.but hb)
  rw [decide_eq_true hD] at this
  exact this
 obtain ⟨x1,y1,p1,rfl,-⟩:=id hd.agg
 obtain ⟨x2,y2,p2,rfl,-⟩:=id hr.agg
 generalize decide (D.num<0)=s1 at *
 generalize decide (f.num<0)=s2 at *
 clear hd hr lf hf hD
 obtain ⟨V1,hV1⟩:∃ V1,V1=w.alloc (.cells #[.bool s1,.int .u64 x1,.int .u64 y1,.pointer p1] 27):=⟨_,rfl⟩
 obtain ⟨V2,hV2⟩:∃ V2,V2=V1.alloc (.cells #[.bool s2,.int .u64 x2,.int .u64 y2,.pointer p2] 27):=⟨_,rfl⟩
 obtain ⟨V3,hV3⟩:∃ V3,V3=V2.alloc (.cells #[.bool false,.int .u64 0,.int .u64 0,.pointer none] 27):=⟨_,rfl⟩
 obtain ⟨W1,hW1⟩:∃ W1,W1=V3.alloc (.cells #[.bool false,.int .u64 0,.int .u64 0,.pointer none] 27):=⟨_,rfl⟩
 have b1':But [] w V1:=by rw [hV1];exact (But.refl _ _).alloc _
 have b2':But [] V1 V2:=by rw [hV2];exact (But.refl _ _).alloc _
 have b3':But [] V2 V3:=by rw [hV3];exact (But.refl _ _).alloc _
 have b4':But [] V3 W1:=by rw [hW1];exact (But.refl _ _).alloc _
 have z1:V1.heap.size=w.heap.size+1:=by rw [hV1];simp
 have z2:V2.heap.size=w.heap.size+2:=by rw [hV2];simp [z1]
 have z3:V3.heap.size=w.heap.size+3:=by rw [hV3];simp [z2]
 have c5:NewB w.heap.size V1 w.heap.size [.bool s1,.int .u64 x1,.int .u64 y1,.pointer p1]:=by rw [hV1];exact NewB.made _ w _ _ (Nat.le_refl _)
 have c9:NewB w.heap.size V2 V1.heap.size [.bool s2,.int .u64 x2,.int .u64 y2,.pointer p2]:=by rw [hV2];exact NewB.made _ V1 _ _ (by omega)
 have x10:NewB w.heap.size V3 V2.heap.size [.bool false,.int .u64 0,.int .u64 0,.pointer none]:=by rw [hV3];exact NewB.made _ V2 [.bool false,.int .u64 0,.int .u64 0,.pointer none] _ (by omega)
 have x11:NewB w.heap.size W1 V3.heap.size [.bool false,.int .u64 0,.int .u64 0,.pointer none]:=by rw [hW1];exact NewB.made _ V3 [.bool false,.int .u64 0,.int .u64 0,.pointer none] _ (by omega)
 have HW:Hid (W1=(((w.alloc (.cells #[.bool s1,.int .u64 x1,.int .u64 y1,.pointer p1] 27)).alloc (.cells #[.bool s2,.int .u64 x2,.int .u64 y2,.pointer p2] 27)).alloc (.cells #[.bool false,.int .u64 0,.int .u64 0,.pointer none] 27)).alloc (.cells #[.bool false,.int .u64 0,.int .u64 0,.pointer none] 27)):=by show _=_;rw [hW1,hV3,hV2,hV1]
 obtain ⟨g5,hg5⟩:∃ g,g=w.heap.size:=⟨_,rfl⟩
 obtain ⟨g9,hg9⟩:∃ g,g=w.heap.size+1:=⟨_,rfl⟩
 obtain ⟨g10,hg10⟩:∃ g,g=w.heap.size+2:=⟨_,rfl⟩
 obtain ⟨g11,hg11⟩:∃ g,g=w.heap.size+3:=⟨_,rfl⟩
 have C5:Hid (NewB w.heap.size W1 g5 [.bool s1,.int .u64 x1,.int .u64 y1,.pointer p1]):=by show NewB _ _ _ _;rw [hg5];exact ((c5.but b2').but b3').but b4'
 have C9:Hid (NewB w.heap.size W1 g9 [.bool s2,.int .u64 x2,.int .u64 y2,.pointer p2]):=by show NewB _ _ _ _;rw [hg9,← z1];exact (c9.but b3').but b4'
 have X10:Hid (NewB w.heap.size W1 g10 [.bool false,.int .u64 0,.int .u64 0,.pointer none]):=by show NewB _ _ _ _;rw [hg10,← z2];exact x10.but b4'
 have X11:Hid (NewB w.heap.size W1 g11 [.bool false,.int .u64 0,.int .u64 0,.pointer none]):=by show NewB _ _ _ _;rw [hg11,← z3];exact x11
 have B1:=hide (((b1'.trans' b2').trans' b3').trans' b4')
 have Q4:Hid (w.heap.size≤g10∧w.heap.size≤g11):=⟨by omega,by omega⟩
 have n1:g11≠g10:=by omega
 clear b1' b2' b3' b4' z1 z2 z3 c5 c9 x10 x11 hW1 hV3 hV2 hV1 V1 V2 V3
 go_enter Tryz.func13,Tryz.ntmps13
 go_wp2_with fail
 rw [← unhide HW]
 try rw [show w.heap.size+1+1+1=w.heap.size+3 from rfl]
 try rw [show w.heap.size+1+1=w.heap.size+2 from rfl]
 rw [← hg11,← hg10,← hg9,← hg5]
 clear HW hg5 hg9 hg10 hg11
 refine (unhide AB W1 (unhide B1)).mono ?_
 rintro e w2 ⟨rfl,hb2⟩
 have B2:=hide ((unhide B1).trans' hb2)
 have X102:=hide ((unhide X10).but hb2)
 have X112:=hide ((unhide X11).but hb2)
 have c52:=(unhide C5).but hb2
 have k0:=c52.cells 0 _ rfl
 have k1:=c52.cells 1 _ rfl
 have k2:=c52.cells 2 _ rfl
 have k3:=c52.cells 3 _ rfl
 clear c52 hb2 C5 C9 X10 X11 B1 AB
 go_wp2_with fail
 refine (unhide BE w2 (unhide B2)).mono ?_
 rintro e w3 ⟨rfl,hb3⟩
 have B3:=hide ((unhide B2).trans' hb3)
 have X103:=hide ((unhide X102).but hb3)
 have X113:=hide ((unhide X112).but hb3)
 clear hb3 X102 X112 B2 BE k0 k1 k2 k3
 obtain ⟨a0,qa0⟩:∃ u,w3.cell? ⟨g10,0,none⟩=some u:=⟨_,(unhide X103).cells 0 _ rfl⟩
 obtain ⟨a1,qa1⟩:∃ u,w3.cell? ⟨g10,1,none⟩=some u:=⟨_,(unhide X103).cells 1 _ rfl⟩
 obtain ⟨a2,qa2⟩:∃ u,w3.cell? ⟨g10,2,none⟩=some u:=⟨_,(unhide X103).cells 2 _ rfl⟩
 obtain ⟨a3,qa3⟩:∃ u,w3.cell? ⟨g10,3,none⟩=some u:=⟨_,(unhide X103).cells 3 _ rfl⟩
 have fza:=(unhide X103).loose
 obtain ⟨b0,qb0⟩:∃ u,w3.cell? ⟨g11,0,none⟩=some u:=⟨_,(unhide X113).cells 0 _ rfl⟩
 obtain ⟨b1,qb1⟩:∃ u,w3.cell? ⟨g11,1,none⟩=some u:=⟨_,(unhide X113).cells 1 _ rfl⟩
 obtain ⟨b2,qb2⟩:∃ u,w3.cell? ⟨g11,2,none⟩=some u:=⟨_,(unhide X113).cells 2 _ rfl⟩
 obtain ⟨b3,qb3⟩:∃ u,w3.cell? ⟨g11,3,none⟩=some u:=⟨_,(unhide X113).cells 3 _ rfl⟩
 have fzb:=(unhide X113).loose
 go_wp2
 show bodyPost _ _ _ _ _ ((w3.setCells g10 0 [.bool false,.int .u64 0,.int .u64 0,.pointer none]).setCells g11 0 [.bool false,.int .u64 0,.int .u64 0,.pointer none])
 have i10:=(unhide X103).put (us:=[.bool false,.int .u64 0,.int .u64 0,.pointer none]) rfl
 have hb5:=but_setCells w3 g10 [.bool false,.int .u64 0,.int .u64 0,.pointer none] 0
 have i11:=(unhide X113).beside hb5 (by simpa using n1)
 have bw:=(unhide B3).trans hb5 (fun x hx=>by simp at hx;subst hx;exact .inr (unhide Q4).1)
 generalize w3.setCells g10 0 [.bool false,.int .u64 0,.int .u64 0,.pointer none]=U at *
 have j11:=i11.put (us:=[.bool false,.int .u64 0,.int .u64 0,.pointer none]) rfl
 have hb6:=but_setCells U g11 [.bool false,.int .u64 0,.int .u64 0,.pointer none] 0
 have j10:=i10.beside hb6 (by simpa using n1.symm)
 have BF:=hide (bw.trans hb6 (fun x hx=>by simp at hx;subst hx;exact .inr (unhide Q4).2))
 have m0:=j10.cells 0 _ rfl
 have m4:=j11.cells 0 _ rfl
 have m1:=j10.cells 1 _ rfl
 have m5:=j11.cells 1 _ rfl
 have m2:=j10.cells 2 _ rfl
 have m6:=j11.cells 2 _ rfl
 have m3:=j10.cells 3 _ rfl
 have m7:=j11.cells 3 _ rfl
 clear hb5 hb6 i10 i11 j10 j11 bw
 generalize U.setCells g11 0 [.bool false,.int .u64 0,.int .u64 0,.pointer none]=FF at *
 exact bodyPost_ret (v:=.tuple #[.agg #[.bool false,.int .u64 0,.int .u64 0,.pointer none],.agg #[.bool false,.int .u64 0,.int .u64 0,.pointer none],.iface 33 (.int .i64 1)]) (by simp [results,Tryz.results13,go_sem,m0,m1,m2,m3,m4,m5,m6,m7]) rfl ⟨rfl,unhide BF⟩
end Go.Proofs.YtpfnnhjnakmnoaaGreatDoor

namespace Go.Proofs.YtpfnnhjnakmnoaaGreatDoor
open Go.RowKit
set_option maxHeartbeats 16000000
set_option maxRecDepth 100000
theorem pair_errC (vd vr:Value) (D f:Rat) (ta th tb:Int) (w:World) (hd:FracAt w vd D) (hr:FracAt w vr f) (h2:¬ th<ta) (h1:0≤th) :
  Calls Tryz.prog 13 #[vd,.int .i64 ta,.int .i64 th,.int .i64 tb,vr] w fun e w'=>e=.returned (.tuple #[.agg #[.bool false,.int .u64 0,.int .u64 0,.pointer none],.agg #[.bool false,.int .u64 0,.int .u64 0,.pointer none],.iface 33 (.int .i64 2)])∧But [] w w':=by
 obtain ⟨x1,y1,p1,rfl,-⟩:=id hd.agg
 obtain ⟨x2,y2,p2,rfl,-⟩:=id hr.agg
 generalize decide (D.num<0)=s1 at *
 generalize decide (f.num<0)=s2 at *
 clear hd hr 
 obtain ⟨V1,hV1⟩:∃ V1,V1=w.alloc (.cells #[.bool s1,.int .u64 x1,.int .u64 y1,.pointer p1] 27):=⟨_,rfl⟩
 obtain ⟨V2,hV2⟩:∃ V2,V2=V1.alloc (.cells #[.bool s2,.int .u64 x2,.int .u64 y2,.pointer p2] 27):=⟨_,rfl⟩
 obtain ⟨V3,hV3⟩:∃ V3,V3=V2.alloc (.cells #[.bool false,.int .u64 0,.int .u64 0,.pointer none] 27):=⟨_,rfl⟩
 obtain ⟨W1,hW1⟩:∃ W1,W1=V3.alloc (.cells #[.bool false,.int .u64 0,.int .u64 0,.pointer none] 27):=⟨_,rfl⟩
 have b1':But [] w V1:=by rw [hV1];exact (But.refl _ _).alloc _
 have b2':But [] V1 V2:=by rw [hV2];exact (But.refl _ _).alloc _
 have b3':But [] V2 V3:=by rw [hV3];exact (But.refl _ _).alloc _
 have b4':But [] V3 W1:=by rw [hW1];exact (But.refl _ _).alloc _
 have z1:V1.heap.size=w.heap.size+1:=by rw [hV1];simp
 have z2:V2.heap.size=w.heap.size+2:=by rw [hV2];simp [z1]
 have z3:V3.heap.size=w.heap.size+3:=by rw [hV3];simp [z2]
 have c5:NewB w.heap.size V1 w.heap.size [.bool s1,.int .u64 x1,.int .u64 y1,.pointer p1]:=by rw [hV1];exact NewB.made _ w _ _ (Nat.le_refl _)
 have c9:NewB w.heap.size V2 V1.heap.size [.bool s2,.int .u64 x2,.int .u64 y2,.pointer p2]:=by rw [hV2];exact NewB.made _ V1 _ _ (by omega)
 have x10:NewB w.heap.size V3 V2.heap.size [.bool false,.int .u64 0,.int .u64 0,.pointer none]:=by rw [hV3];exact NewB.made _ V2 [.bool false,.int .u64 0,.int .u64 0,.pointer none] _ (by omega)
 have x11:NewB w.heap.size W1 V3.heap.size [.bool false,.int .u64 0,.int .u64 0,.pointer none]:=by rw [hW1];exact NewB.made _ V3 [.bool false,.int .u64 0,.int .u64 0,.pointer none] _ (by omega)
 have HW:Hid (W1=(((w.alloc (.cells #[.bool s1,.int .u64 x1,.int .u64 y1,.pointer p1] 27)).alloc (.cells #[.bool s2,.int .u64 x2,.int .u64 y2,.pointer p2] 27)).alloc (.cells #[.bool false,.int .u64 0,.int .u64 0,.pointer none] 27)).alloc (.cells #[.bool false,.int .u64 0,.int .u64 0,.pointer none] 27)):=by show _=_;rw [hW1,hV3,hV2,hV1]
 obtain ⟨g5,hg5⟩:∃ g,g=w.heap.size:=⟨_,rfl⟩
 obtain ⟨g9,hg9⟩:∃ g,g=w.heap.size+1:=⟨_,rfl⟩
 obtain ⟨g10,hg10⟩:∃ g,g=w.heap.size+2:=⟨_,rfl⟩
 obtain ⟨g11,hg11⟩:∃ g,g=w.heap.size+3:=⟨_,rfl⟩
 have C5:Hid (NewB w.heap.size W1 g5 [.bool s1,.int .u64 x1,.int .u64 y1,.pointer p1]):=by show NewB _ _ _ _;rw [hg5];exact ((c5.but b2').but b3').but b4'
 have C9:Hid (NewB w.heap.size W1 g9 [.bool s2,.int .u64 x2,.int .u64 y2,.pointer p2]):=by show NewB _ _ _ _;rw [hg9,← z1];exact (c9.but b3').but b4'
 have X10:Hid (NewB w.heap.size W1 g10 [.bool false,.int .u64 0,.int .u64 0,.pointer none]):=by show NewB _ _ _ _;rw [hg10,← z2];exact x10.but b4'
 have X11:Hid (NewB w.heap.size W1 g11 [.bool false,.int .u64 0,.int .u64 0,.pointer none]):=by show NewB _ _ _ _;rw [hg11,← z3];exact x11
 have B1:=hide (((b1'.trans' b2').trans' b3').trans' b4')
 have Q4:Hid (w.heap.size≤g10∧w.heap.size≤g11):=⟨by omega,by omega⟩
 have n1:g11≠g10:=by omega
 clear b1' b2' b3' b4' z1 z2 z3 c5 c9 x10 x11 hW1 hV3 hV2 hV1 V1 V2 V3
 go_enter Tryz.func13,Tryz.ntmps13
 go_wp2
 rw [← unhide HW]
 try rw [show w.heap.size+1+1+1=w.heap.size+3 from rfl]
 try rw [show w.heap.size+1+1=w.heap.size+2 from rfl]
 rw [← hg11,← hg10,← hg9,← hg5]
 have m0:=(unhide X10).cells 0 _ rfl
 have m4:=(unhide X11).cells 0 _ rfl
 have m1:=(unhide X10).cells 1 _ rfl
 have m5:=(unhide X11).cells 1 _ rfl
 have m2:=(unhide X10).cells 2 _ rfl
 have m6:=(unhide X11).cells 2 _ rfl
 have m3:=(unhide X10).cells 3 _ rfl
 have m7:=(unhide X11).cells 3 _ rfl
 exact bodyPost_ret (v:=.tuple #[.agg #[.bool false,.int .u64 0,.int .u64 0,.pointer none],.agg #[.bool false,.int .u64 0,.int .u64 0,.pointer none],.iface 33 (.int .i64 2)]) (by simp [results,Tryz.results13,go_sem,m0,m1,m2,m3,m4,m5,m6,m7]) rfl ⟨rfl,unhide B1⟩
theorem pair_errD (vd vr:Value) (D f:Rat) (ta th tb:Int) (w:World) (hd:FracAt w vd D) (hr:FracAt w vr f) (h2:th<ta) (h3:¬ ta<tb) (h1:0≤th) :
  Calls Tryz.prog 13 #[vd,.int .i64 ta,.int .i64 th,.int .i64 tb,vr] w fun e w'=>e=.returned (.tuple #[.agg #[.bool false,.int .u64 0,.int .u64 0,.pointer none],.agg #[.bool false,.int .u64 0,.int .u64 0,.pointer none],.iface 33 (.int .i64 2)])∧But [] w w':=by
 obtain ⟨x1,y1,p1,rfl,-⟩:=id hd.agg
 obtain ⟨x2,y2,p2,rfl,-⟩:=id hr.agg
 generalize decide (D.num<0)=s1 at *
 generalize decide (f.num<0)=s2 at *
 clear hd hr 
 obtain ⟨V1,hV1⟩:∃ V1,V1=w.alloc (.cells #[.bool s1,.int .u64 x1,.int .u64 y1,.pointer p1] 27):=⟨_,rfl⟩
 obtain ⟨V2,hV2⟩:∃ V2,V2=V1.alloc (.cells #[.bool s2,.int .u64 x2,.int .u64 y2,.pointer p2] 27):=⟨_,rfl⟩
 obtain ⟨V3,hV3⟩:∃ V3,V3=V2.alloc (.cells #[.bool false,.int .u64 0,.int .u64 0,.pointer none] 27):=⟨_,rfl⟩
 obtain ⟨W1,hW1⟩:∃ W1,W1=V3.alloc (.cells #[.bool false,.int .u64 0,.int .u64 0,.pointer none] 27):=⟨_,rfl⟩
 have b1':But [] w V1:=by rw [hV1];exact (But.refl _ _).alloc _
 have b2':But [] V1 V2:=by rw [hV2];exact (But.refl _ _).alloc _
 have b3':But [] V2 V3:=by rw [hV3];exact (But.refl _ _).alloc _
 have b4':But [] V3 W1:=by rw [hW1];exact (But.refl _ _).alloc _
 have z1:V1.heap.size=w.heap.size+1:=by rw [hV1];simp
 have z2:V2.heap.size=w.heap.size+2:=by rw [hV2];simp [z1]
 have z3:V3.heap.size=w.heap.size+3:=by rw [hV3];simp [z2]
 have c5:NewB w.heap.size V1 w.heap.size [.bool s1,.int .u64 x1,.int .u64 y1,.pointer p1]:=by rw [hV1];exact NewB.made _ w _ _ (Nat.le_refl _)
 have c9:NewB w.heap.size V2 V1.heap.size [.bool s2,.int .u64 x2,.int .u64 y2,.pointer p2]:=by rw [hV2];exact NewB.made _ V1 _ _ (by omega)
 have x10:NewB w.heap.size V3 V2.heap.size [.bool false,.int .u64 0,.int .u64 0,.pointer none]:=by rw [hV3];exact NewB.made _ V2 [.bool false,.int .u64 0,.int .u64 0,.pointer none] _ (by omega)
 have x11:NewB w.heap.size W1 V3.heap.size [.bool false,.int .u64 0,.int .u64 0,.pointer none]:=by rw [hW1];exact NewB.made _ V3 [.bool false,.int .u64 0,.int .u64 0,.pointer none] _ (by omega)
 have HW:Hid (W1=(((w.alloc (.cells #[.bool s1,.int .u64 x1,.int .u64 y1,.pointer p1] 27)).alloc (.cells #[.bool s2,.int .u64 x2,.int .u64 y2,.pointer p2] 27)).alloc (.cells #[.bool false,.int .u64 0,.int .u64 0,.pointer none] 27)).alloc (.cells #[.bool false,.int .u64 0,.int .u64 0,.pointer none] 27)):=by show _=_;rw [hW1,hV3,hV2,hV1]
 obtain ⟨g5,hg5⟩:∃ g,g=w.heap.size:=⟨_,rfl⟩
 obtain ⟨g9,hg9⟩:∃ g,g=w.heap.size+1:=⟨_,rfl⟩
 obtain ⟨g10,hg10⟩:∃ g,g=w.heap.size+2:=⟨_,rfl⟩
 obtain ⟨g11,hg11⟩:∃ g,g=w.heap.size+3:=⟨_,rfl⟩
 have C5:Hid (NewB w.heap.size W1 g5 [.bool s1,.int .u64 x1,.int .u64 y1,.pointer p1]):=by show NewB _ _ _ _;rw [hg5];exact ((c5.but b2').but b3').but b4'
 have C9:Hid (NewB w.heap.size W1 g9 [.bool s2,.int .u64 x2,.int .u64 y2,.pointer p2]):=by show NewB _ _ _ _;rw [hg9,← z1];exact (c9.but b3').but b4'
 have X10:Hid (NewB w.heap.size W1 g10 [.bool false,.int .u64 0,.int .u64 0,.pointer none]):=by show NewB _ _ _ _;rw [hg10,← z2];exact x10.but b4'
 have X11:Hid (NewB w.heap.size W1 g11 [.bool false,.int .u64 0,.int .u64 0,.pointer none]):=by show NewB _ _ _ _;rw [hg11,← z3];exact x11
 have B1:=hide (((b1'.trans' b2').trans' b3').trans' b4')
 have Q4:Hid (w.heap.size≤g10∧w.heap.size≤g11):=⟨by omega,by omega⟩
 have n1:g11≠g10:=by omega
 clear b1' b2' b3' b4' z1 z2 z3 c5 c9 x10 x11 hW1 hV3 hV2 hV1 V1 V2 V3
 go_enter Tryz.func13,Tryz.ntmps13
 go_wp2
 rw [← unhide HW]
 try rw [show w.heap.size+1+1+1=w.heap.size+3 from rfl]
 try rw [show w.heap.size+1+1=w.heap.size+2 from rfl]
 rw [← hg11,← hg10,← hg9,← hg5]
 have m0:=(unhide X10).cells 0 _ rfl
 have m4:=(unhide X11).cells 0 _ rfl
 have m1:=(unhide X10).cells 1 _ rfl
 have m5:=(unhide X11).cells 1 _ rfl
 have m2:=(unhide X10).cells 2 _ rfl
 have m6:=(unhide X11).cells 2 _ rfl
 have m3:=(unhide X10).cells 3 _ rfl
 have m7:=(unhide X11).cells 3 _ rfl
 exact bodyPost_ret (v:=.tuple #[.agg #[.bool false,.int .u64 0,.int .u64 0,.pointer none],.agg #[.bool false,.int .u64 0,.int .u64 0,.pointer none],.iface 33 (.int .i64 2)]) (by simp [results,Tryz.results13,go_sem,m0,m1,m2,m3,m4,m5,m6,m7]) rfl ⟨rfl,unhide B1⟩
theorem pair_errE (vd vr:Value) (D f:Rat) (ta th tb:Int) (w:World) (hd:FracAt w vd D) (hr:FracAt w vr f) (h1:th<0) :
  Calls Tryz.prog 13 #[vd,.int .i64 ta,.int .i64 th,.int .i64 tb,vr] w fun e w'=>e=.returned (.tuple #[.agg #[.bool false,.int .u64 0,.int .u64 0,.pointer none],.agg #[.bool false,.int .u64 0,.int .u64 0,.pointer none],.iface 33 (.int .i64 2)])∧But [] w w':=by
 obtain ⟨x1,y1,p1,rfl,-⟩:=id hd.agg
 obtain ⟨x2,y2,p2,rfl,-⟩:=id hr.agg
 generalize decide (D.num<0)=s1 at *
 generalize decide (f.num<0)=s2 at *
 clear hd hr 
 obtain ⟨V1,hV1⟩:∃ V1,V1=w.alloc (.cells #[.bool s1,.int .u64 x1,.int .u64 y1,.pointer p1] 27):=⟨_,rfl⟩
 obtain ⟨V2,hV2⟩:∃ V2,V2=V1.alloc (.cells #[.bool s2,.int .u64 x2,.int .u64 y2,.pointer p2] 27):=⟨_,rfl⟩
 obtain ⟨V3,hV3⟩:∃ V3,V3=V2.alloc (.cells #[.bool false,.int .u64 0,.int .u64 0,.pointer none] 27):=⟨_,rfl⟩
 obtain ⟨W1,hW1⟩:∃ W1,W1=V3.alloc (.cells #[.bool false,.int .u64 0,.int .u64 0,.pointer none] 27):=⟨_,rfl⟩
 have b1':But [] w V1:=by rw [hV1];exact (But.refl _ _).alloc _
 have b2':But [] V1 V2:=by rw [hV2];exact (But.refl _ _).alloc _
 have b3':But [] V2 V3:=by rw [hV3];exact (But.refl _ _).alloc _
 have b4':But [] V3 W1:=by rw [hW1];exact (But.refl _ _).alloc _
 have z1:V1.heap.size=w.heap.size+1:=by rw [hV1];simp
 have z2:V2.heap.size=w.heap.size+2:=by rw [hV2];simp [z1]
 have z3:V3.heap.size=w.heap.size+3:=by rw [hV3];simp [z2]
 have c5:NewB w.heap.size V1 w.heap.size [.bool s1,.int .u64 x1,.int .u64 y1,.pointer p1]:=by rw [hV1];exact NewB.made _ w _ _ (Nat.le_refl _)
 have c9:NewB w.heap.size V2 V1.heap.size [.bool s2,.int .u64 x2,.int .u64 y2,.pointer p2]:=by rw [hV2];exact NewB.made _ V1 _ _ (by omega)
 have x10:NewB w.heap.size V3 V2.heap.size [.bool false,.int .u64 0,.int .u64 0,.pointer none]:=by rw [hV3];exact NewB.made _ V2 [.bool false,.int .u64 0,.int .u64 0,.pointer none] _ (by omega)
 have x11:NewB w.heap.size W1 V3.heap.size [.bool false,.int .u64 0,.int .u64 0,.pointer none]:=by rw [hW1];exact NewB.made _ V3 [.bool false,.int .u64 0,.int .u64 0,.pointer none] _ (by omega)
 have HW:Hid (W1=(((w.alloc (.cells #[.bool s1,.int .u64 x1,.int .u64 y1,.pointer p1] 27)).alloc (.cells #[.bool s2,.int .u64 x2,.int .u64 y2,.pointer p2] 27)).alloc (.cells #[.bool false,.int .u64 0,.int .u64 0,.pointer none] 27)).alloc (.cells #[.bool false,.int .u64 0,.int .u64 0,.pointer none] 27)):=by show _=_;rw [hW1,hV3,hV2,hV1]
 obtain ⟨g5,hg5⟩:∃ g,g=w.heap.size:=⟨_,rfl⟩
 obtain ⟨g9,hg9⟩:∃ g,g=w.heap.size+1:=⟨_,rfl⟩
 obtain ⟨g10,hg10⟩:∃ g,g=w.heap.size+2:=⟨_,rfl⟩
 obtain ⟨g11,hg11⟩:∃ g,g=w.heap.size+3:=⟨_,rfl⟩
 have C5:Hid (NewB w.heap.size W1 g5 [.bool s1,.int .u64 x1,.int .u64 y1,.pointer p1]):=by show NewB _ _ _ _;rw [hg5];exact ((c5.but b2').but b3').but b4'
 have C9:Hid (NewB w.heap.size W1 g9 [.bool s2,.int .u64 x2,.int .u64 y2,.pointer p2]):=by show NewB _ _ _ _;rw [hg9,← z1];exact (c9.but b3').but b4'
 have X10:Hid (NewB w.heap.size W1 g10 [.bool false,.int .u64 0,.int .u64 0,.pointer none]):=by show NewB _ _ _ _;rw [hg10,← z2];exact x10.but b4'
 have X11:Hid (NewB w.heap.size W1 g11 [.bool false,.int .u64 0,.int .u64 0,.pointer none]):=by show NewB _ _ _ _;rw [hg11,← z3];exact x11
 have B1:=hide (((b1'.trans' b2').trans' b3').trans' b4')
 have Q4:Hid (w.heap.size≤g10∧w.heap.size≤g11):=⟨by omega,by omega⟩
 have n1:g11≠g10:=by omega
 clear b1' b2' b3' b4' z1 z2 z3 c5 c9 x10 x11 hW1 hV3 hV2 hV1 V1 V2 V3
 go_enter Tryz.func13,Tryz.ntmps13
 go_wp2
 rw [← unhide HW]
 try rw [show w.heap.size+1+1+1=w.heap.size+3 from rfl]
 try rw [show w.heap.size+1+1=w.heap.size+2 from rfl]
 rw [← hg11,← hg10,← hg9,← hg5]
 have m0:=(unhide X10).cells 0 _ rfl
 have m4:=(unhide X11).cells 0 _ rfl
 have m1:=(unhide X10).cells 1 _ rfl
 have m5:=(unhide X11).cells 1 _ rfl
 have m2:=(unhide X10).cells 2 _ rfl
 have m6:=(unhide X11).cells 2 _ rfl
 have m3:=(unhide X10).cells 3 _ rfl
 have m7:=(unhide X11).cells 3 _ rfl
 exact bodyPost_ret (v:=.tuple #[.agg #[.bool false,.int .u64 0,.int .u64 0,.pointer none],.agg #[.bool false,.int .u64 0,.int .u64 0,.pointer none],.iface 33 (.int .i64 2)]) (by simp [results,Tryz.results13,go_sem,m0,m1,m2,m3,m4,m5,m6,m7]) rfl ⟨rfl,unhide B1⟩
theorem pair_errF (vd vr:Value) (D f:Rat) (ta th tb:Int) (w:World) (hd:FracAt w vd D) (hr:FracAt w vr f) (h2:th<ta) (h3:ta<tb) (h1:0≤th) (h4:120<tb) :
  Calls Tryz.prog 13 #[vd,.int .i64 ta,.int .i64 th,.int .i64 tb,vr] w fun e w'=>e=.returned (.tuple #[.agg #[.bool false,.int .u64 0,.int .u64 0,.pointer none],.agg #[.bool false,.int .u64 0,.int .u64 0,.pointer none],.iface 33 (.int .i64 2)])∧But [] w w':=by
 obtain ⟨x1,y1,p1,rfl,-⟩:=id hd.agg
 obtain ⟨x2,y2,p2,rfl,-⟩:=id hr.agg
 generalize decide (D.num<0)=s1 at *
 generalize decide (f.num<0)=s2 at *
 clear hd hr 
 obtain ⟨V1,hV1⟩:∃ V1,V1=w.alloc (.cells #[.bool s1,.int .u64 x1,.int .u64 y1,.pointer p1] 27):=⟨_,rfl⟩
 obtain ⟨V2,hV2⟩:∃ V2,V2=V1.alloc (.cells #[.bool s2,.int .u64 x2,.int .u64 y2,.pointer p2] 27):=⟨_,rfl⟩
 obtain ⟨V3,hV3⟩:∃ V3,V3=V2.alloc (.cells #[.bool false,.int .u64 0,.int .u64 0,.pointer none] 27):=⟨_,rfl⟩
 obtain ⟨W1,hW1⟩:∃ W1,W1=V3.alloc (.cells #[.bool false,.int .u64 0,.int .u64 0,.pointer none] 27):=⟨_,rfl⟩
 have b1':But [] w V1:=by rw [hV1];exact (But.refl _ _).alloc _
 have b2':But [] V1 V2:=by rw [hV2];exact (But.refl _ _).alloc _
 have b3':But [] V2 V3:=by rw [hV3];exact (But.refl _ _).alloc _
 have b4':But [] V3 W1:=by rw [hW1];exact (But.refl _ _).alloc _
 have z1:V1.heap.size=w.heap.size+1:=by rw [hV1];simp
 have z2:V2.heap.size=w.heap.size+2:=by rw [hV2];simp [z1]
 have z3:V3.heap.size=w.heap.size+3:=by rw [hV3];simp [z2]
 have c5:NewB w.heap.size V1 w.heap.size [.bool s1,.int .u64 x1,.int .u64 y1,.pointer p1]:=by rw [hV1];exact NewB.made _ w _ _ (Nat.le_refl _)
 have c9:NewB w.heap.size V2 V1.heap.size [.bool s2,.int .u64 x2,.int .u64 y2,.pointer p2]:=by rw [hV2];exact NewB.made _ V1 _ _ (by omega)
 have x10:NewB w.heap.size V3 V2.heap.size [.bool false,.int .u64 0,.int .u64 0,.pointer none]:=by rw [hV3];exact NewB.made _ V2 [.bool false,.int .u64 0,.int .u64 0,.pointer none] _ (by omega)
 have x11:NewB w.heap.size W1 V3.heap.size [.bool false,.int .u64 0,.int .u64 0,.pointer none]:=by rw [hW1];exact NewB.made _ V3 [.bool false,.int .u64 0,.int .u64 0,.pointer none] _ (by omega)
 have HW:Hid (W1=(((w.alloc (.cells #[.bool s1,.int .u64 x1,.int .u64 y1,.pointer p1] 27)).alloc (.cells #[.bool s2,.int .u64 x2,.int .u64 y2,.pointer p2] 27)).alloc (.cells #[.bool false,.int .u64 0,.int .u64 0,.pointer none] 27)).alloc (.cells #[.bool false,.int .u64 0,.int .u64 0,.pointer none] 27)):=by show _=_;rw [hW1,hV3,hV2,hV1]
 obtain ⟨g5,hg5⟩:∃ g,g=w.heap.size:=⟨_,rfl⟩
 obtain ⟨g9,hg9⟩:∃ g,g=w.heap.size+1:=⟨_,rfl⟩
 obtain ⟨g10,hg10⟩:∃ g,g=w.heap.size+2:=⟨_,rfl⟩
 obtain ⟨g11,hg11⟩:∃ g,g=w.heap.size+3:=⟨_,rfl⟩
 have C5:Hid (NewB w.heap.size W1 g5 [.bool s1,.int .u64 x1,.int .u64 y1,.pointer p1]):=by show NewB _ _ _ _;rw [hg5];exact ((c5.but b2').but b3').but b4'
 have C9:Hid (NewB w.heap.size W1 g9 [.bool s2,.int .u64 x2,.int .u64 y2,.pointer p2]):=by show NewB _ _ _ _;rw [hg9,← z1];exact (c9.but b3').but b4'
 have X10:Hid (NewB w.heap.size W1 g10 [.bool false,.int .u64 0,.int .u64 0,.pointer none]):=by show NewB _ _ _ _;rw [hg10,← z2];exact x10.but b4'
 have X11:Hid (NewB w.heap.size W1 g11 [.bool false,.int .u64 0,.int .u64 0,.pointer none]):=by show NewB _ _ _ _;rw [hg11,← z3];exact x11
 have B1:=hide (((b1'.trans' b2').trans' b3').trans' b4')
 have Q4:Hid (w.heap.size≤g10∧w.heap.size≤g11):=⟨by omega,by omega⟩
 have n1:g11≠g10:=by omega
 clear b1' b2' b3' b4' z1 z2 z3 c5 c9 x10 x11 hW1 hV3 hV2 hV1 V1 V2 V3
 go_enter Tryz.func13,Tryz.ntmps13
 go_wp2
 rw [← unhide HW]
 try rw [show w.heap.size+1+1+1=w.heap.size+3 from rfl]
 try rw [show w.heap.size+1+1=w.heap.size+2 from rfl]
 rw [← hg11,← hg10,← hg9,← hg5]
 have m0:=(unhide X10).cells 0 _ rfl
 have m4:=(unhide X11).cells 0 _ rfl
 have m1:=(unhide X10).cells 1 _ rfl
 have m5:=(unhide X11).cells 1 _ rfl
 have m2:=(unhide X10).cells 2 _ rfl
 have m6:=(unhide X11).cells 2 _ rfl
 have m3:=(unhide X10).cells 3 _ rfl
 have m7:=(unhide X11).cells 3 _ rfl
 exact bodyPost_ret (v:=.tuple #[.agg #[.bool false,.int .u64 0,.int .u64 0,.pointer none],.agg #[.bool false,.int .u64 0,.int .u64 0,.pointer none],.iface 33 (.int .i64 2)]) (by simp [results,Tryz.results13,go_sem,m0,m1,m2,m3,m4,m5,m6,m7]) rfl ⟨rfl,unhide B1⟩
end Go.Proofs.YtpfnnhjnakmnoaaGreatDoor

namespace Go.Proofs.YtpfnnhjnakmnoaaGreatDoor
open Go.RowKit
set_option maxHeartbeats 1000000
theorem numPos {x:Rat}:0<x.num↔0<x:=by
 rw [Rat.lt_iff]
 simp
theorem numNeg {x:Rat}:x.num<0↔x<0:=by
 rw [Rat.lt_iff]
 simp
theorem of_is {f:Rat} {x y:Int} (hy:y≠0) (h:f.num*y=x*f.den):f*(y:Rat)=(x:Rat):=by
 rw [qf_of f (x,y) (by rw [if_neg hy];exact h)]
 unfold qf
 rw [if_neg hy]
 exact Rat.div_mul_cancel (int_ne y hy)
theorem one_pos_num {f:Rat} (hf:-1<f):0<(1+f).num:=by
 have:0<1+f:=by grind
 exact numPos.2 this
theorem pair_ok (vd vr:Value) (D f:Rat) (a t b:Nat) (ld:Len D 1) (lf:Len f 1) (hf:-1<f) (hD:0≤D) (h1:a<t) (h2:t<b) (h3:b≤120) :
  ∃ x y:Rat,PairR D (1+f) (1+f)⁻¹ a t b x y∧Len x 1000∧Len y 1000∧∀ w,FracAt w vd D→FracAt w vr f→Calls Tryz.prog 13 #[vd,.int .i64 (t:Int),.int .i64 (a:Int),.int .i64 (b:Int),vr] w fun e w'=>∃ za zb:FZ,e=.returned (.tuple #[.agg #[.bool za.1,.int .u64 za.2.1,.int .u64 za.2.2.1,.pointer za.2.2.2],.agg #[.bool zb.1,.int .u64 zb.2.1,.int .u64 zb.2.2.1,.pointer zb.2.2.2],.nilIface])∧FracAt w' (.agg #[.bool za.1,.int .u64 za.2.1,.int .u64 za.2.2.1,.pointer za.2.2.2]) x∧FracAt w' (.agg #[.bool zb.1,.int .u64 zb.2.1,.int .u64 zb.2.2.1,.pointer zb.2.2.2]) y∧But [] w w':=by
 obtain ⟨pa,ra,xa,ya,lpa,hpa,FA,OA⟩:=fracOf_at ((b:Int)-(t:Int)) ((b:Int)-(a:Int)) (by omega) (by omega) (by omega) (by omega) (by omega)
 obtain ⟨pb,rb,xb,yb,lpb,hpb,FB,OB⟩:=fracOf_at ((a:Int)-(t:Int)) ((a:Int)-(b:Int)) (by omega) (by omega) (by omega) (by omega) (by omega)
 have n0:=one_pos_num hf
 have g0:0<1+f:=by grind
 have g1:(1+f)≠0:=by grind
 have lg:Len (1+f) 3:=len_add (len_int 1 (by decide)) lf _ (by omega)
 have li:Len (1+f)⁻¹ 3:=len_inv lg (by omega)
 have L1:Len ((1+f)⁻¹^(t-a)) 361:=(len_powV li (t-a)).mono (by omega)
 have L2:Len ((1+f)^(b-t)) 361:=(len_powV lg (b-t)).mono (by omega)
 have L3:Len ((1+f)^(t-a)) 361:=(len_powV lg (t-a)).mono (by omega)
 have p1:=pow_num L3
 have p2:=pow_num L2
 have ea:((b:Int)-(a:Int))=((b-a:Nat):Int):=by omega
 have et:((b:Int)-(t:Int))=((b-t:Nat):Int):=by omega
 have e1:=of_is (by omega) hpa
 have e2:=of_is (by omega) hpb
 refine ⟨D*pa*(1+f)⁻¹^(t-a),D*pb*(1+f)^(b-t),⟨h1,h2,hD,Rat.mul_inv_cancel _ g1,Rat.inv_pos.2 g0,pa,pb,?_,?_,rfl,rfl⟩,?_,?_,?_⟩
 ·rw [← ea,← et];exact e1
 ·have q1:(((a:Int)-(b:Int):Int):Rat)=- (((b-a:Nat):Int):Rat):=by rw [← Rat.intCast_neg];congr 1;omega
  have q2:(((a:Int)-(t:Int):Int):Rat)=- (((t-a:Nat):Int):Rat):=by rw [← Rat.intCast_neg];congr 1;omega
  rw [q1,q2] at e2
  grind
 ·exact (len_mul (len_mul ld lpa 2 (by omega)) L1 _ (by omega)).mono (Nat.le_refl _)
 ·exact (len_mul (len_mul ld lpb 2 (by omega)) L2 _ (by omega)).mono (Nat.le_refl _)
 ·intro w hd hr
  refine pair_okX vd vr D f _ _ (t:Int) (a:Int) (b:Int) w hd hr lf hf hD (by omega) (by omega) (by omega) (by omega) ?_ ?_
  ·intro W hb
   refine moved_any vd vr D f pa _ ra xa ya (t:Int) (a:Int) (b:Int) W (hd.but hb) (hr.but hb) (ld.mono (by omega)) (lf.mono (by omega)) (lpa.mono (by omega)) (L1.mono (by omega)) (by omega) (by omega) (by omega) (by omega) (by omega) (by omega) OA FA ?_
   intro W' vy hy
   have:=fracPow_inv vy (1+f) (t-a) W' hy n0 (by omega) (by omega) (Nat.le_trans p1.1 (by omega)) (Nat.le_trans p1.2 (by omega)) (lg.mono (by omega))
   rw [rpow_isV] at this
   rw [show (a:Int)-(t:Int)=-((t-a:Nat):Int) from by omega]
   exact this
  ·intro W hb
   refine moved_any vd vr D f pb _ rb xb yb (t:Int) (b:Int) (a:Int) W (hd.but hb) (hr.but hb) (ld.mono (by omega)) (lf.mono (by omega)) (lpb.mono (by omega)) (L2.mono (by omega)) (by omega) (by omega) (by omega) (by omega) (by omega) (by omega) OB FB ?_
   intro W' vy hy
   have:=fracPow_gen vy (1+f) (b-t) W' hy (by omega) (lg.mono (by omega)) (Nat.le_trans p2.1 (by omega)) (Nat.le_trans p2.2 (by omega))
   rw [rpow_isV] at this
   rw [show (b:Int)-(t:Int)=((b-t:Nat):Int) from by omega]
   exact this
end Go.Proofs.YtpfnnhjnakmnoaaGreatDoor
