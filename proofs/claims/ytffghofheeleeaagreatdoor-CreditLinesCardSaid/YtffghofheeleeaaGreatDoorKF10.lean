/- The quotient of two fractions, as the Go -/
import Derived.Shelf.Abstract
import Derived.Test.YtffghofheeleeaaGreatDoorKPK
namespace Go.Proofs.YtffghofheeleeaaGreatDoor
open Go.Proofs.Tryz
open Go.RowKit
set_option maxHeartbeats 16000000
set_option maxRecDepth 100000
theorem fracDiv_any (vf vg:Value) (f g:Rat) (w:World) (hf:am w vf f) (hg:am w vg g) (lf:Len f 1000000) (lg:Len g 1000000) (h0:g.num≠0) :
  Calls prog 119 #[vf,vg] w fun e w'=>∃ v,e=.returned (.tuple #[v,.nilIface])∧am w' v (f/g)∧But [] w w':=by
 have lg':Len g⁻¹ 1000000:=by
  obtain⟨i1,i2,-⟩:=zgn g h0
  unfold Len
  rw[i1,i2]
  exact⟨lg.2,lg.1⟩
 have SG:=af (fun W (h:am W vg g)=>jy vg g W h)
 have hsn:(g.num.sign==0)=false:=beq_eq_false_iff_ne.2 (fun e=>h0 (Int.sign_eq_zero_iff_zero.1 e))
 generalize g.num.sign=sg at SG hsn
 have NG:=af (fun W (h:am W vg g)=>fracTurned_any vg g W h h0)
 have AD:Hid (∀ (W:World) (v2:Value),am W vf f→am W v2 g⁻¹→Calls prog 56 #[vf,v2] W fun e w'=>∃ v,e=.returned v∧am w' v (f/g)∧But [] W w'):=fun W v2 h1 h2=>by
  rw[Rat.div_def]
  exact lv vf v2 f g⁻¹ W h1 h2 lf lg'
 have HFA:=af hf
 have HGA:=af hg
 obtain⟨x1,y1,p1,rfl,-⟩:=hf.agg
 obtain⟨x2,y2,p2,rfl,-⟩:=hg.agg
 clear hf hg lf lg lg' h0
 generalize hsf:decide (f.num<0)=s1 at *
 generalize hsg:decide (g.num<0)=s2 at *
 clear hsf hsg
 obtain⟨W,hW⟩:∃ W,W=(((w.alloc (.cells #[.bool s1,.int .u64 x1,.int .u64 y1,.pointer p1] 27)).alloc (.cells #[.bool s2,.int .u64 x2,.int .u64 y2,.pointer p2] 27)).alloc (.cells #[.bool false,.int .u64 0,.int .u64 0,.pointer none] 27)):=⟨_,rfl⟩
 obtain⟨tA,tB,tC,fz,hB⟩:=zbm w W _ _ _ _ hW
 have a0:=tA 0
 have a1:=tA 1
 have a2:=tA 2
 have a3:=tA 3
 have b0:=tB 0
 have b1:=tB 1
 have b2:=tB 2
 have b3:=tB 3
 have r0:=tC 0
 have r1:=tC 1
 have r2:=tC 2
 have r3:=tC 3
 simp only[List.getElem?_toArray,List.getElem?_cons_zero,List.getElem?_cons_succ] at a0 a1 a2 a3 b0 b1 b2 b3 r0 r1 r2 r3
 have BL:Hid (Blank W (w.heap.size+2)):=⟨r0,r1,r2,r3,fun j hj=>by rw[tC j];simp;omega⟩
 clear tA tB tC
 have HW:=af hW
 have HB:=af hB
 clear hW hB
 go_enter func119,ntmps119
 go_wp2_with fail
 rw[← ae HW]
 obtain⟨ga,hga⟩:∃ ga,ga=w.heap.size:=⟨_,rfl⟩
 obtain⟨gb,hgb⟩:∃ gb,gb=w.heap.size+1:=⟨_,rfl⟩
 obtain⟨gr,hgr⟩:∃ gr,gr=w.heap.size+2:=⟨_,rfl⟩
 rw[← hga] at a0 a1 a2 a3
 rw[← hgb] at b0 b1 b2 b3
 rw[← hgr] at r0 r1 r2 r3 fz BL
 rw[show w.heap.size+1+1=w.heap.size+2 from rfl,← hgr,← hgb,← hga]
 have HGR:Hid (w.heap.size≤gr):=by show _≤_;omega
 have nga:ga≠gr:=by omega
 have ngb:gb≠gr:=by omega
 clear hga hgb hgr HW
 refine (ae SG _ ((ae HGA).but (ae HB))).mono ?_
 rintro e W0 ⟨rfl,hc0⟩
 have gl0:gr<W.heap.size:=ai r0
 replace fz:∀ j,W0.frozen? ⟨gr,j,none⟩=false:=fun j=>(hc0.frozen (p:=⟨gr,j,none⟩) gl0 (by simp)).trans (fz j)
 clear gl0
 replace a0:=hc0.ag a0 (by simp)
 replace a1:=hc0.ag a1 (by simp)
 replace a2:=hc0.ag a2 (by simp)
 replace a3:=hc0.ag a3 (by simp)
 replace b0:=hc0.ag b0 (by simp)
 replace b1:=hc0.ag b1 (by simp)
 replace b2:=hc0.ag b2 (by simp)
 replace b3:=hc0.ag b3 (by simp)
 replace r0:=hc0.ag r0 (by simp)
 replace r1:=hc0.ag r1 (by simp)
 replace r2:=hc0.ag r2 (by simp)
 replace r3:=hc0.ag r3 (by simp)
 replace BL:Hid (Blank W0 gr):=(ae BL).but hc0
 replace HB:Hid (But [] w W0):=(ae HB).trans' hc0
 clear hc0
 go_wp2_with fail
 have grl:gr<W0.heap.size:=ai r0
 go_region_held (fun w'=>w'.cell? ⟨ga,0,none⟩=some (.bool s1)∧w'.cell? ⟨ga,1,none⟩=some (.int .u64 x1)∧w'.cell? ⟨ga,2,none⟩=some (.int .u64 y1)∧w'.cell? ⟨ga,3,none⟩=some (.pointer p1)∧w'.cell? ⟨gb,0,none⟩=some (.bool s2)∧w'.cell? ⟨gb,1,none⟩=some (.int .u64 x2)∧w'.cell? ⟨gb,2,none⟩=some (.int .u64 y2)∧w'.cell? ⟨gb,3,none⟩=some (.pointer p2)) (first | go_keep | exact⟨qy _ _ _ _ _ _ _ _ _ nga m0,qy _ _ _ _ _ _ _ _ _ nga m1,qy _ _ _ _ _ _ _ _ _ nga m2,qy _ _ _ _ _ _ _ _ _ nga m3,qy _ _ _ _ _ _ _ _ _ ngb n0,qy _ _ _ _ _ _ _ _ _ ngb n1,qy _ _ _ _ _ _ _ _ _ ngb n2,qy _ _ _ _ _ _ _ _ _ ngb n3⟩) (first
  | (go_at_call 72;refine (ae NG _ (by first | exact (ae HGA).but (ae HB) | exact (ae HGA).but ((ae HB).trans' (But.refl _ _).drew))).mono ?_;rintro e w1 ⟨v1,rfl,hn1,hc1⟩;have B1:But [] W0 w1:=(by first | exact hc1 | exact (But.refl _ _).drew.trans' hc1);have HN1:=af hn1;clear hn1 hc1;have k0:=B1.ag a0 (by simp);have k1:=B1.ag a1 (by simp);have k2:=B1.ag a2 (by simp);have k3:=B1.ag a3 (by simp);have l0:=B1.ag b0 (by simp);have l1:=B1.ag b1 (by simp);have l2:=B1.ag b2 (by simp);have l3:=B1.ag b3 (by simp))
  | (go_at_call 56;refine (ae AD _ _ (by first | exact (ae HFA).but ((ae HB).trans' B1) | exact (ae HFA).but (((ae HB).trans' B1).trans' (But.refl _ _).drew)) (by first | exact ae HN1 | exact (ae HN1).but (But.refl _ _).drew)).mono ?_;rintro e w2 ⟨v2,rfl,hn2,hc2⟩;have B2:But [] W0 w2:=(by first | exact B1.trans' hc2 | exact B1.trans' ((But.refl _ _).drew.trans' hc2));have HN2:=af hn2;obtain⟨x8,y8,p8,rfl,-⟩:=hn2.agg;clear hc2;clear hn2;generalize decide ((f/g).num<0)=r8 at *;have m0:=B2.ag a0 (by simp);have m1:=B2.ag a1 (by simp);have m2:=B2.ag a2 (by simp);have m3:=B2.ag a3 (by simp);have n0:=B2.ag b0 (by simp);have n1:=B2.ag b1 (by simp);have n2:=B2.ag b2 (by simp);have n3:=B2.ag b3 (by simp);have u0:=B2.ag r0 (by simp);have u1:=B2.ag r1 (by simp);have u2:=B2.ag r2 (by simp);have u3:=B2.ag r3 (by simp);have uf:∀ j,w2.frozen? ⟨gr,j,none⟩=false:=fun j=>(B2.frozen (p:=⟨gr,j,none⟩) grl (by simp)).trans (fz j)))
 go_wp2
 have hBf:=(((((ae HB).trans' B2).setCell (p:=⟨gr,0,none⟩) (.inr (ae HGR)) (.bool r8)).setCell (p:=⟨gr,1,none⟩) (.inr (ae HGR)) (.int .u64 x8)).setCell (p:=⟨gr,2,none⟩) (.inr (ae HGR)) (.int .u64 y8)).setCell (p:=⟨gr,3,none⟩) (.inr (ae HGR)) (.pointer p8)
 have hBg:But [gr] w2 ((((w2.setCell ⟨gr,0,none⟩ (.bool r8)).setCell ⟨gr,1,none⟩ (.int .u64 x8)).setCell ⟨gr,2,none⟩ (.int .u64 y8)).setCell ⟨gr,3,none⟩ (.pointer p8)):=(((((But.refl [gr] w2).setCell (.inl (by simp)) _).setCell (.inl (by simp)) _).setCell (.inl (by simp)) _).setCell (.inl (by simp)) _)
 exact bodyPost_ret (v:=.tuple #[.agg #[.bool r8,.int .u64 x8,.int .u64 y8,.pointer p8],.nilIface]) (by simp[results,results119,go_sem,u0,u1,u2,u3]) rfl ⟨_,rfl,((ae BL).but B2).frac (ae HN2) hBg,hBf⟩
theorem zbr (v:Value) (f:Rat) (w:World) (hf:am w v f) (lf:Len f 1000000) :
  Calls prog 117 #[v] w fun e w'=>∃ v',e=.returned v'∧am w' v' (f*f)∧But [] w w':=by
 have MU:=af (fun W (h:But [] w W)=>lv v v f f W (hf.but h) (hf.but h) lf lf)
 obtain⟨x1,y1,p1,rfl,-⟩:=id hf.agg
 generalize decide (f.num<0)=s1 at *
 generalize hgf:f*f=ff at *
 clear hf lf hgf
 obtain⟨A0,hA0⟩:∃ A0,A0=w.alloc (.cells #[.bool s1,.int .u64 x1,.int .u64 y1,.pointer p1] 27):=⟨_,rfl⟩
 obtain⟨W,hW⟩:∃ W,W=A0.alloc (.cells #[.bool false,.int .u64 0,.int .u64 0,.pointer none] 27):=⟨_,rfl⟩
 have sA0:A0.heap.size=w.heap.size+1:=by rw[hA0];simp
 have bA0:But [] w A0:=by rw[hA0];exact (But.refl _ _).alloc _
 have bW:But [] A0 W:=by rw[hW];exact (But.refl _ _).alloc _
 have kA0:P4 A0 (w.heap.size) s1 x1 y1 p1:=by
  rw[hA0];exact⟨by simp,by simp,by simp,by simp⟩
 have K1:=af (kA0.but bW (by simp))
 have xR:az W (w.heap.size+1) 0:=by
  rw[hW,← sA0]
  exact az.new A0 false 0 0 none 0 27 (xk _)
 have BW:=af ((bA0).trans' bW)
 have XR:=af xR
 clear bA0 kA0 bW xR
 go_enter func117,ntmps117
 go_wp2_with fail
 rw[← hA0,← hW]
 refine (ae MU _ (ae BW)).mono ?_
 rintro e w1 ⟨v1,rfl,hf1,hb1⟩
 have B1:=af ((ae BW).trans' hb1)
 have X1:=af ((ae XR).but hb1)
 obtain⟨x2,y2,p2,rfl,-⟩:=id hf1.agg
 generalize decide (ff.num<0)=s2 at *
 have HF1:=af hf1
 clear hb1 hf1 BW XR K1 MU
 clear hA0 sA0 hW
 generalize hg1:w.heap.size+1=g1 at *
 generalize hg0:w.heap.size=g0 at *
 obtain⟨⟨t3,a3,b3,q3,⟨c0,c1,c2,c3⟩,-⟩,z3⟩:=ae X1
 have P2:Hid (P4 w1 g1 t3 a3 b3 q3):=⟨c0,c1,c2,c3⟩
 go_wp2
 have hP:=aw w1 g1 s2 x2 y2 p2
 obtain⟨m0,m1,m2,m3⟩:=wu w1 g1 s2 x2 y2 p2 (ae P2)
 have hF:But [] w (jk w1 g1 s2 x2 y2 p2):=(ae B1).trans hP (fun x hx=>by simp at hx;subst hx;exact .inr (by omega))
 have hff:=(ae HF1).over ((ae P2)).1 hP
 change bodyPost _ _ _ _ _ (jk w1 g1 s2 x2 y2 p2)
 generalize jk w1 g1 s2 x2 y2 p2=F at *
 exact bodyPost_ret (v:=.agg #[.bool s2,.int .u64 x2,.int .u64 y2,.pointer p2]) (by simp[results,results117,go_sem,m0,m1,m2,m3]) rfl ⟨_,rfl,hff,hF⟩
theorem creditQuot_any (v:Value) (f:Rat) (n:Int) (w:World) (hf:am w v f) (lf:Len f 1000000) (hn1:1≤n) (hn2:n≤100000) :
  Calls prog 63 #[v,.int .i64 n] w fun e w'=>∃ v',e=.returned v'∧am w' v' (f/((n:Int):Rat))∧But [] w w':=by
 obtain⟨ws,wx,FW,CW⟩:=zfa n (by omega) (by omega)
 have hn0:(((n:Int):Rat)).num≠0:=by rw[(bj n).1];omega
 have DI:=af (fun W (h:But [] w W)=>fracDiv_any v _ f ((n:Int):Rat) W (hf.but h) (FW W) lf ((oo n (by omega)).mono (by omega)) hn0)
 have HCW:=af CW
 obtain⟨x1,y1,p1,rfl,-⟩:=id hf.agg
 generalize decide (f.num<0)=s1 at *
 generalize hgf:f/((n:Int):Rat)=ff at *
 clear hf lf hgf hn0 FW CW
 obtain⟨A0,hA0⟩:∃ A0,A0=w.alloc (.cells #[.bool s1,.int .u64 x1,.int .u64 y1,.pointer p1] 27):=⟨_,rfl⟩
 obtain⟨W,hW⟩:∃ W,W=A0.alloc (.cells #[.bool false,.int .u64 0,.int .u64 0,.pointer none] 27):=⟨_,rfl⟩
 have sA0:A0.heap.size=w.heap.size+1:=by rw[hA0];simp
 have bA0:But [] w A0:=by rw[hA0];exact (But.refl _ _).alloc _
 have bW:But [] A0 W:=by rw[hW];exact (But.refl _ _).alloc _
 have kA0:P4 A0 (w.heap.size) s1 x1 y1 p1:=by
  rw[hA0];exact⟨by simp,by simp,by simp,by simp⟩
 have K1:=af (kA0.but bW (by simp))
 have xR:az W (w.heap.size+1) 0:=by
  rw[hW,← sA0]
  exact az.new A0 false 0 0 none 0 27 (xk _)
 have BW:=af ((bA0).trans' bW)
 have XR:=af xR
 clear bA0 kA0 bW xR
 go_enter func63,ntmps63
 go_wp2
 rw[← hA0,← hW]
 clear hA0 sA0 hW
 generalize hg1:w.heap.size+1=g1 at *
 generalize hg0:w.heap.size=g0 at *
 refine quot_region 1 _ _ W W.heap.size n s1 x1 y1 p1 ws wx ff (by simp) g0 rfl (by simp[Act.eval]) (by simp[Act.eval]) (ae K1) (ae HCW) (fun W hb=>ae DI W ((ae BW).trans' hb)) ?_
 intro w1 bn v3 v4 v5 v8 s2 x2 y2 p2 hb1 hBn hp1 hf1
 simp only[bi,List.foldl_cons,List.foldl_nil,Act.put,List.setIfInBounds_toArray,List.set_cons_zero,List.set_cons_succ]
 have B1:=af ((ae BW).trans' hb1)
 have X1:=af ((ae XR).but hb1)
 have HF1:=af hf1
 obtain⟨d0,d1,d2,d3⟩:=hp1
 clear hb1 hf1 BW XR K1 DI HCW hBn
 obtain⟨⟨t3,a3,b3,q3,⟨c0,c1,c2,c3⟩,-⟩,z3⟩:=ae X1
 have P2:Hid (P4 w1 g1 t3 a3 b3 q3):=⟨c0,c1,c2,c3⟩
 go_wp2
 have hP:=aw w1 g1 s2 x2 y2 p2
 obtain⟨m0,m1,m2,m3⟩:=wu w1 g1 s2 x2 y2 p2 (ae P2)
 have hF:But [] w (jk w1 g1 s2 x2 y2 p2):=(ae B1).trans hP (fun x hx=>by simp at hx;subst hx;exact .inr (by omega))
 have hff:=(ae HF1).over ((ae P2)).1 hP
 change bodyPost _ _ _ _ _ (jk w1 g1 s2 x2 y2 p2)
 generalize jk w1 g1 s2 x2 y2 p2=F at *
 exact bodyPost_ret (v:=.agg #[.bool s2,.int .u64 x2,.int .u64 y2,.pointer p2]) (by simp[results,results63,go_sem,m0,m1,m2,m3]) rfl ⟨_,rfl,hff,hF⟩
theorem zfu (v:Value) (f:Rat) (w:World) (hf:am w v f) (lf:Len f 400000) :
  Calls prog 55 #[v] w fun e w'=>∃ v',e=.returned v'∧am w' v' (((1:Int):Rat)-f)∧But [] w w':=by
 obtain⟨ws,wx,FW,CW⟩:=zfa 1 (by omega) (by omega)
 have SU:=af (fun W (h:But [] w W)=>zfr _ v ((1:Int):Rat) f W (FW W) (hf.but h) ((oo 1 (by decide)).mono (by omega)) (lf.mono (by omega)))
 have HCW:=af CW
 obtain⟨x1,y1,p1,rfl,-⟩:=id hf.agg
 generalize decide (f.num<0)=s1 at *
 clear hf lf FW CW
 obtain⟨A0,hA0⟩:∃ A0,A0=w.alloc (.cells #[.bool s1,.int .u64 x1,.int .u64 y1,.pointer p1] 27):=⟨_,rfl⟩
 obtain⟨W,hW⟩:∃ W,W=A0.alloc (.cells #[.bool false,.int .u64 0,.int .u64 0,.pointer none] 27):=⟨_,rfl⟩
 have sA0:A0.heap.size=w.heap.size+1:=by rw[hA0];simp
 have bA0:But [] w A0:=by rw[hA0];exact (But.refl _ _).alloc _
 have bW:But [] A0 W:=by rw[hW];exact (But.refl _ _).alloc _
 have kA0:P4 A0 (w.heap.size) s1 x1 y1 p1:=by
  rw[hA0];exact⟨by simp,by simp,by simp,by simp⟩
 have K1:=af (kA0.but bW (by simp))
 have xR:az W (w.heap.size+1) 0:=by
  rw[hW,← sA0]
  exact az.new A0 false 0 0 none 0 27 (xk _)
 have BW:=af ((bA0).trans' bW)
 have XR:=af xR
 clear bA0 kA0 bW xR
 go_enter func55,ntmps55
 go_wp2
 rw[← hA0,← hW]
 clear hA0 sA0 hW
 generalize hg1:w.heap.size+1=g1 at *
 generalize hg0:w.heap.size=g0 at *
 obtain⟨⟨t3,a3,b3,q3,cc,-⟩,z3⟩:=ae XR
 refine rest_region 1 _ _ W ws wx s1 x1 y1 p1 f g1 g0 (by simp) (by simp[Act.eval]) cc z3 (by simp[Act.eval]) (ae K1) (ae HCW) (fun W hb=>ae SU W ((ae BW).trans' hb)) ?_
 intro w1 s2 x2 y2 p2 hb1 hf1
 simp only[bi,List.foldl_cons,List.foldl_nil,Act.put,List.setIfInBounds_toArray,List.set_cons_zero,List.set_cons_succ]
 have B1:=af ((ae BW).trans' hb1)
 have P2:=af (cc.but hb1 (by simp))
 have HF1:=af hf1
 clear hb1 hf1 BW XR K1 SU HCW cc z3
 have hP:=aw w1 g1 s2 x2 y2 p2
 obtain⟨m0,m1,m2,m3⟩:=wu w1 g1 s2 x2 y2 p2 (ae P2)
 have hF:But [] w (jk w1 g1 s2 x2 y2 p2):=(ae B1).trans hP (fun x hx=>by simp at hx;subst hx;exact .inr (by omega))
 have hff:=(ae HF1).over (ae P2).1 hP
 generalize jk w1 g1 s2 x2 y2 p2=F at *
 clear hP
 go_wp2
 exact bodyPost_ret (v:=.agg #[.bool s2,.int .u64 x2,.int .u64 y2,.pointer p2]) (by simp[results,results55,go_sem,m0,m1,m2,m3]) rfl ⟨_,rfl,hff,hF⟩
def ownR (b d:Rat):Rat:=if b.num=0 then 0 else b/(b+d)
theorem ownPart_any (va vb:Value) (b c:Rat) (w:World) (ha:am w va b) (hb:am w vb c) (la:Len b 200000) (lb:Len c 200000) (hne:b.num≠0→(b+c).num≠0) :
  Calls prog 54 #[va,vb] w fun e w'=>∃ v',e=.returned v'∧am w' v' (ownR b c)∧But [] w w':=by
 have SG:=af (fun W (h:But [] w W)=>jy va b W (ha.but h))
 have AD:=af (fun W (h:But [] w W)=>zcv va vb b c W (ha.but h) (hb.but h) (la.mono (by omega)) (lb.mono (by omega)))
 have DI:Hid (b.num≠0→∀ W v,But [] w W→am W v (b+c)→Calls prog 119 #[va,v] W fun e w'=>∃ v,e=.returned (.tuple #[v,.nilIface])∧am w' v (b/(b+c))∧But [] W w'):=fun h0 W v h hv=>fracDiv_any va v b (b+c) W (ha.but h) hv (la.mono (by omega)) (zee la lb 1000000 (by omega)) (hne h0)
 obtain⟨x1,y1,p1,rfl,-⟩:=id ha.agg
 generalize decide (b.num<0)=s1 at *
 obtain⟨x2,y2,p2,rfl,-⟩:=id hb.agg
 generalize decide (c.num<0)=s2 at *
 obtain⟨sg,hsg⟩:∃ sg,sg=b.num.sign:=⟨_,rfl⟩
 rw[← hsg] at SG
 have HS:Hid (sg=0↔b.num=0):=by show _↔_;rw[hsg];exact Int.sign_eq_zero_iff_zero
 obtain⟨M,hM⟩:∃ M,M=ownR b c:=⟨_,rfl⟩
 have HM:Hid ((b.num=0→M=0)∧(b.num≠0→M=b/(b+c))):=by
  rw[hM]
  unfold ownR
  exact⟨fun h=>by rw[if_pos h],fun h=>by rw[if_neg h]⟩
 rw[← hM]
 clear ha hb hsg la lb hne hM
 obtain⟨A0,hA0⟩:∃ A0,A0=w.alloc (.cells #[.bool s1,.int .u64 x1,.int .u64 y1,.pointer p1] 27):=⟨_,rfl⟩
 obtain⟨A1,hA1⟩:∃ A1,A1=A0.alloc (.cells #[.bool s2,.int .u64 x2,.int .u64 y2,.pointer p2] 27):=⟨_,rfl⟩
 obtain⟨W,hW⟩:∃ W,W=A1.alloc (.cells #[.bool false,.int .u64 0,.int .u64 0,.pointer none] 27):=⟨_,rfl⟩
 have sA0:A0.heap.size=w.heap.size+1:=by rw[hA0];simp
 have bA0:But [] w A0:=by rw[hA0];exact (But.refl _ _).alloc _
 have sA1:A1.heap.size=w.heap.size+2:=by rw[hA1];simp;omega
 have bA1:But [] A0 A1:=by rw[hA1];exact (But.refl _ _).alloc _
 have bW:But [] A1 W:=by rw[hW];exact (But.refl _ _).alloc _
 have kA0:P4 A0 (w.heap.size) s1 x1 y1 p1:=by
  rw[hA0];exact⟨by simp,by simp,by simp,by simp⟩
 have K1:=af ((kA0.but bA1 (by simp)).but bW (by simp))
 have kA1:P4 A1 (w.heap.size+1) s2 x2 y2 p2:=by
  rw[← sA0]
  rw[hA1];exact⟨by simp,by simp,by simp,by simp⟩
 have K2:=af (kA1.but bW (by simp))
 have xR:az W (w.heap.size+2) 0:=by
  rw[hW,← sA1]
  exact az.new A1 false 0 0 none 0 27 (xk _)
 have BW:=af (((bA0).trans' bA1).trans' bW)
 have XR:=af xR
 clear bA0 kA0 bA1 kA1 bW xR
 go_enter func54,ntmps54
 go_wp2_with fail
 rw[← hA0,← hA1,← hW]
 refine (ae SG _ (ae BW)).mono ?_
 rintro e w1 ⟨rfl,hb1⟩
 have B1:=af ((ae BW).trans' hb1)
 have X1:=af ((ae XR).but hb1)
 have K11:=af ((ae K1).but hb1 (by simp))
 have K21:=af ((ae K2).but hb1 (by simp))
 clear hb1 BW XR K1 K2 SG
 clear hA0 sA0 hA1 sA1 hW
 generalize hg2:w.heap.size+2=g2 at *
 generalize hg1:w.heap.size+1=g1 at *
 generalize hg0:w.heap.size=g0 at *
 by_cases hz:sg=0
 ·obtain rfl:=(ae HM).1 ((ae HS).1 hz)
  clear HM HS
  obtain⟨⟨t3,a3,b3,q3,⟨c0,c1,c2,c3⟩,-⟩,z3⟩:=ae X1
  have P2:Hid (P4 w1 g2 t3 a3 b3 q3):=⟨c0,c1,c2,c3⟩
  subst hz
  go_wp2
  have hP:=aw w1 g2 false 0 0 none
  obtain⟨m0,m1,m2,m3⟩:=wu w1 g2 false 0 0 none (ae P2)
  have hF:But [] w (jk w1 g2 false 0 0 none):=(ae B1).trans hP (fun x hx=>by simp at hx;subst hx;exact .inr (by omega))
  have hff:=(xk w1).over ((ae P2)).1 hP
  change bodyPost _ _ _ _ _ (jk w1 g2 false 0 0 none)
  generalize jk w1 g2 false 0 0 none=F at *
  exact bodyPost_ret (v:=.agg #[.bool false,.int .u64 0,.int .u64 0,.pointer none]) (by simp[results,results54,go_sem,m0,m1,m2,m3]) rfl ⟨_,rfl,hff,hF⟩
 ·have hbz:b.num≠0:=fun h=>hz ((ae HS).2 h)
  have hm:=(ae HM).2 hbz
  have DI2:=af (ae DI hbz)
  rw[← hm] at DI2
  have HMM:=af hm
  clear DI hm HM HS
  go_wp2
  refine own_region 3 _ _ w1 w1.heap.size s1 x1 y1 p1 s2 x2 y2 p2 b c (by simp) g0 g1 rfl (by simp[Act.eval]) (by simp[Act.eval]) (ae K11) (ae K21) (fun W hb=>ae AD W ((ae B1).trans' hb)) (fun W hb v hv=>by rw[← ae HMM];exact ae DI2 W v ((ae B1).trans' hb) hv) ?_
  intro w2 bn v3 v4 v5 v6 v9 s4 x4 y4 p4 hb2 hBn hp2 hf2
  simp only[bi,List.foldl_cons,List.foldl_nil,Act.put,List.setIfInBounds_toArray,List.set_cons_zero,List.set_cons_succ]
  have B2:=af ((ae B1).trans' hb2)
  have X2:=af ((ae X1).but hb2)
  rw[← ae HMM] at hf2
  have HF2:=af hf2
  obtain⟨d0,d1,d2,d3⟩:=hp2
  clear hb2 hf2 B1 X1 K11 K21 AD DI2 hBn
  obtain⟨⟨t3,a3,b3,q3,⟨c0,c1,c2,c3⟩,-⟩,z3⟩:=ae X2
  have P2:Hid (P4 w2 g2 t3 a3 b3 q3):=⟨c0,c1,c2,c3⟩
  go_wp2
  have hP:=aw w2 g2 s4 x4 y4 p4
  obtain⟨m0,m1,m2,m3⟩:=wu w2 g2 s4 x4 y4 p4 (ae P2)
  have hF:But [] w (jk w2 g2 s4 x4 y4 p4):=(ae B2).trans hP (fun x hx=>by simp at hx;subst hx;exact .inr (by omega))
  have hff:=(ae HF2).over ((ae P2)).1 hP
  change bodyPost _ _ _ _ _ (jk w2 g2 s4 x4 y4 p4)
  generalize jk w2 g2 s4 x4 y4 p4=F at *
  exact bodyPost_ret (v:=.agg #[.bool s4,.int .u64 x4,.int .u64 y4,.pointer p4]) (by simp[results,results54,go_sem,m0,m1,m2,m3]) rfl ⟨_,rfl,hff,hF⟩
def ze (ks:List Kd) (k:Nat):Kd:=ks[k]?.getD ⟨0,0,0⟩
def KdOk (s1:Bool) (x1 y1:Int) (p1:Option Addr) (s2:Bool) (x2 y2:Int) (p2:Option Addr) (s3:Bool) (x3 y3:Int) (p3:Option Addr) (k:Kd):Prop:=(∀ W,am W (.agg #[.bool s1,.int .u64 x1,.int .u64 y1,.pointer p1]) k.ch)∧(∀ W,am W (.agg #[.bool s2,.int .u64 x2,.int .u64 y2,.pointer p2]) k.me)∧∀ W,am W (.agg #[.bool s3,.int .u64 x3,.int .u64 y3,.pointer p3]) k.sp
theorem kOne_any (s1:Bool) (x1 y1:Int) (p1:Option Addr) (s2:Bool) (x2 y2:Int) (p2:Option Addr) (s3:Bool) (x3 y3:Int) (p3:Option Addr) (k:Kd) (w:World) (_hk:KdOk s1 x1 y1 p1 s2 x2 y2 p2 s3 x3 y3 p3 k) :
  Calls prog 114 #[.agg #[.bool s1,.int .u64 x1,.int .u64 y1,.pointer p1,.bool s2,.int .u64 x2,.int .u64 y2,.pointer p2,.bool s3,.int .u64 x3,.int .u64 y3,.pointer p3]] w fun e w'=>∃ v,e=.returned v∧am w' v ((1:Int):Rat)∧But [] w w':=by
 obtain⟨ws,wx,FW,CW⟩:=zfa 1 (by omega) (by omega)
 have HCW:=af CW
 have HFW:=af FW
 clear FW CW
 obtain⟨A,hA⟩:∃ A,A=w.alloc (.cells #[.bool s1,.int .u64 x1,.int .u64 y1,.pointer p1,.bool s2,.int .u64 x2,.int .u64 y2,.pointer p2,.bool s3,.int .u64 x3,.int .u64 y3,.pointer p3] 45):=⟨_,rfl⟩
 obtain⟨W,hW⟩:∃ W,W=A.alloc (.cells #[.bool false,.int .u64 0,.int .u64 0,.pointer none] 27):=⟨_,rfl⟩
 have sA:A.heap.size=w.heap.size+1:=by rw[hA];simp
 have bA:But [] w A:=by rw[hA];exact (But.refl _ _).alloc _
 have bW:But [] A W:=by rw[hW];exact (But.refl _ _).alloc _
 have xR:az W (w.heap.size+1) 0:=by
  rw[hW,← sA]
  exact az.new A false 0 0 none 0 27 (xk _)
 have XR:=af xR
 have BW:=af (bA.trans' bW)
 clear bA bW xR
 go_enter func114,ntmps114
 go_wp2_with fail
 rw[← hA,← hW]
 refine (ae HCW _).mono ?_
 rintro e w1 ⟨rfl,hb1⟩
 have B1:=af ((ae BW).trans' hb1)
 have X1:=af ((ae XR).but hb1)
 clear hb1 BW XR HCW hA hW sA
 generalize hg1:w.heap.size+1=g1 at *
 obtain⟨⟨t3,a3,b3,q3,⟨c0,c1,c2,c3⟩,-⟩,z3⟩:=ae X1
 have P2:Hid (P4 w1 g1 t3 a3 b3 q3):=⟨c0,c1,c2,c3⟩
 go_wp2
 have hP:=aw w1 g1 ws wx 0 none
 obtain⟨m0,m1,m2,m3⟩:=wu w1 g1 ws wx 0 none (ae P2)
 have hF:But [] w (jk w1 g1 ws wx 0 none):=(ae B1).trans hP (fun x hx=>by simp at hx;subst hx;exact .inr (by omega))
 have hff:=(ae HFW w1).over ((ae P2)).1 hP
 change bodyPost _ _ _ _ _ (jk w1 g1 ws wx 0 none)
 generalize jk w1 g1 ws wx 0 none=F at *
 exact bodyPost_ret (v:=.agg #[.bool ws,.int .u64 wx,.int .u64 0,.pointer none]) (by simp[results,results114,go_sem,m0,m1,m2,m3]) rfl ⟨_,rfl,hff,hF⟩
theorem kMean_any (s1:Bool) (x1 y1:Int) (p1:Option Addr) (s2:Bool) (x2 y2:Int) (p2:Option Addr) (s3:Bool) (x3 y3:Int) (p3:Option Addr) (k:Kd) (w:World) (hk:KdOk s1 x1 y1 p1 s2 x2 y2 p2 s3 x3 y3 p3 k) :
  Calls prog 115 #[.agg #[.bool s1,.int .u64 x1,.int .u64 y1,.pointer p1,.bool s2,.int .u64 x2,.int .u64 y2,.pointer p2,.bool s3,.int .u64 x3,.int .u64 y3,.pointer p3]] w fun e w'=>∃ v,e=.returned v∧am w' v k.me∧But [] w w':=by
 have HF:=af hk.2.1
 clear hk
 obtain⟨A,hA⟩:∃ A,A=w.alloc (.cells #[.bool s1,.int .u64 x1,.int .u64 y1,.pointer p1,.bool s2,.int .u64 x2,.int .u64 y2,.pointer p2,.bool s3,.int .u64 x3,.int .u64 y3,.pointer p3] 45):=⟨_,rfl⟩
 obtain⟨W,hW⟩:∃ W,W=A.alloc (.cells #[.bool false,.int .u64 0,.int .u64 0,.pointer none] 27):=⟨_,rfl⟩
 have sA:A.heap.size=w.heap.size+1:=by rw[hA];simp
 have bA:But [] w A:=by rw[hA];exact (But.refl _ _).alloc _
 have bW:But [] A W:=by rw[hW];exact (But.refl _ _).alloc _
 have xR:az W (w.heap.size+1) 0:=by
  rw[hW,← sA]
  exact az.new A false 0 0 none 0 27 (xk _)
 have XR:=af xR
 have BW:=af (bA.trans' bW)
 clear bA bW xR
 go_enter func115,ntmps115
 go_wp2
 have X1:=ae XR
 obtain⟨⟨t3,a3,b3,q3,P2,-⟩,z3⟩:=X1
 rw[hW,hA] at P2 z3
 rw[hW,hA] at BW
 obtain⟨V,hV⟩:∃ V,V=(w.alloc (.cells #[.bool s1,.int .u64 x1,.int .u64 y1,.pointer p1,.bool s2,.int .u64 x2,.int .u64 y2,.pointer p2,.bool s3,.int .u64 x3,.int .u64 y3,.pointer p3] 45)).alloc (.cells #[.bool s2,.int .u64 x2,.int .u64 y2,.pointer p2] 27):=⟨_,rfl⟩
 have bV:But [] w V:=by rw[hV];exact ((But.refl _ _).alloc _).alloc _
 rw[← hV]
 have m:P4 V (w.heap.size+1) s2 x2 y2 p2:=by
  have h:=az.new (w.alloc (.cells #[.bool s1,.int .u64 x1,.int .u64 y1,.pointer p1,.bool s2,.int .u64 x2,.int .u64 y2,.pointer p2,.bool s3,.int .u64 x3,.int .u64 y3,.pointer p3] 45)) s2 x2 y2 p2 _ 27 (ae HF _)
  rw[hV]
  rw[hA] at sA
  rw[← sA]
  exact⟨by simp,by simp,by simp,by simp⟩
 obtain⟨m0,m1,m2,m3⟩:=m
 exact bodyPost_ret (v:=.agg #[.bool s2,.int .u64 x2,.int .u64 y2,.pointer p2]) (by simp[results,results115,go_sem,m0,m1,m2,m3]) rfl ⟨_,rfl,ae HF V,bV⟩
theorem kSpread_any (s1:Bool) (x1 y1:Int) (p1:Option Addr) (s2:Bool) (x2 y2:Int) (p2:Option Addr) (s3:Bool) (x3 y3:Int) (p3:Option Addr) (k:Kd) (w:World) (hk:KdOk s1 x1 y1 p1 s2 x2 y2 p2 s3 x3 y3 p3 k) :
  Calls prog 118 #[.agg #[.bool s1,.int .u64 x1,.int .u64 y1,.pointer p1,.bool s2,.int .u64 x2,.int .u64 y2,.pointer p2,.bool s3,.int .u64 x3,.int .u64 y3,.pointer p3]] w fun e w'=>∃ v,e=.returned v∧am w' v k.sp∧But [] w w':=by
 have HF:=af hk.2.2
 clear hk
 obtain⟨A,hA⟩:∃ A,A=w.alloc (.cells #[.bool s1,.int .u64 x1,.int .u64 y1,.pointer p1,.bool s2,.int .u64 x2,.int .u64 y2,.pointer p2,.bool s3,.int .u64 x3,.int .u64 y3,.pointer p3] 45):=⟨_,rfl⟩
 obtain⟨W,hW⟩:∃ W,W=A.alloc (.cells #[.bool false,.int .u64 0,.int .u64 0,.pointer none] 27):=⟨_,rfl⟩
 have sA:A.heap.size=w.heap.size+1:=by rw[hA];simp
 have bA:But [] w A:=by rw[hA];exact (But.refl _ _).alloc _
 have bW:But [] A W:=by rw[hW];exact (But.refl _ _).alloc _
 have xR:az W (w.heap.size+1) 0:=by
  rw[hW,← sA]
  exact az.new A false 0 0 none 0 27 (xk _)
 have XR:=af xR
 have BW:=af (bA.trans' bW)
 clear bA bW xR
 go_enter func118,ntmps118
 go_wp2
 have X1:=ae XR
 obtain⟨⟨t3,a3,b3,q3,P2,-⟩,z3⟩:=X1
 rw[hW,hA] at P2 z3
 rw[hW,hA] at BW
 obtain⟨V,hV⟩:∃ V,V=(w.alloc (.cells #[.bool s1,.int .u64 x1,.int .u64 y1,.pointer p1,.bool s2,.int .u64 x2,.int .u64 y2,.pointer p2,.bool s3,.int .u64 x3,.int .u64 y3,.pointer p3] 45)).alloc (.cells #[.bool s3,.int .u64 x3,.int .u64 y3,.pointer p3] 27):=⟨_,rfl⟩
 have bV:But [] w V:=by rw[hV];exact ((But.refl _ _).alloc _).alloc _
 rw[← hV]
 have m:P4 V (w.heap.size+1) s3 x3 y3 p3:=by
  have h:=az.new (w.alloc (.cells #[.bool s1,.int .u64 x1,.int .u64 y1,.pointer p1,.bool s2,.int .u64 x2,.int .u64 y2,.pointer p2,.bool s3,.int .u64 x3,.int .u64 y3,.pointer p3] 45)) s3 x3 y3 p3 _ 27 (ae HF _)
  rw[hV]
  rw[hA] at sA
  rw[← sA]
  exact⟨by simp,by simp,by simp,by simp⟩
 obtain⟨m0,m1,m2,m3⟩:=m
 exact bodyPost_ret (v:=.agg #[.bool s3,.int .u64 x3,.int .u64 y3,.pointer p3]) (by simp[results,results118,go_sem,m0,m1,m2,m3]) rfl ⟨_,rfl,ae HF V,bV⟩
theorem kSquare_any (s1:Bool) (x1 y1:Int) (p1:Option Addr) (s2:Bool) (x2 y2:Int) (p2:Option Addr) (s3:Bool) (x3 y3:Int) (p3:Option Addr) (k:Kd) (w:World) (hk:KdOk s1 x1 y1 p1 s2 x2 y2 p2 s3 x3 y3 p3 k) (lk:Len k.me 100) :
  Calls prog 116 #[.agg #[.bool s1,.int .u64 x1,.int .u64 y1,.pointer p1,.bool s2,.int .u64 x2,.int .u64 y2,.pointer p2,.bool s3,.int .u64 x3,.int .u64 y3,.pointer p3]] w fun e w'=>∃ v,e=.returned v∧am w' v (k.me*k.me)∧But [] w w':=by
 have SQ:=af (fun W=>zbr _ k.me W (hk.2.1 W) (lk.mono (by omega)))
 generalize k.me*k.me=ff at *
 clear hk lk
 obtain⟨A,hA⟩:∃ A,A=w.alloc (.cells #[.bool s1,.int .u64 x1,.int .u64 y1,.pointer p1,.bool s2,.int .u64 x2,.int .u64 y2,.pointer p2,.bool s3,.int .u64 x3,.int .u64 y3,.pointer p3] 45):=⟨_,rfl⟩
 obtain⟨W,hW⟩:∃ W,W=A.alloc (.cells #[.bool false,.int .u64 0,.int .u64 0,.pointer none] 27):=⟨_,rfl⟩
 have sA:A.heap.size=w.heap.size+1:=by rw[hA];simp
 have bA:But [] w A:=by rw[hA];exact (But.refl _ _).alloc _
 have bW:But [] A W:=by rw[hW];exact (But.refl _ _).alloc _
 have xR:az W (w.heap.size+1) 0:=by
  rw[hW,← sA]
  exact az.new A false 0 0 none 0 27 (xk _)
 have XR:=af xR
 have BW:=af (bA.trans' bW)
 clear bA bW xR
 go_enter func116,ntmps116
 go_wp2_with fail
 rw[← hA,← hW]
 refine (ae SQ _).mono ?_
 rintro e w1 ⟨v1,rfl,hf1,hb1⟩
 have B1:=af ((ae BW).trans' hb1)
 have X1:=af ((ae XR).but hb1)
 obtain⟨x5,y5,p5,rfl,-⟩:=id hf1.agg
 generalize decide (ff.num<0)=s5 at *
 have HF1:=af hf1
 clear hb1 hf1 BW XR SQ hA hW sA
 generalize hg1:w.heap.size+1=g1 at *
 obtain⟨⟨t3,a3,b3,q3,⟨c0,c1,c2,c3⟩,-⟩,z3⟩:=ae X1
 have P2:Hid (P4 w1 g1 t3 a3 b3 q3):=⟨c0,c1,c2,c3⟩
 go_wp2
 have hP:=aw w1 g1 s5 x5 y5 p5
 obtain⟨m0,m1,m2,m3⟩:=wu w1 g1 s5 x5 y5 p5 (ae P2)
 have hF:But [] w (jk w1 g1 s5 x5 y5 p5):=(ae B1).trans hP (fun x hx=>by simp at hx;subst hx;exact .inr (by omega))
 have hff:=(ae HF1).over ((ae P2)).1 hP
 change bodyPost _ _ _ _ _ (jk w1 g1 s5 x5 y5 p5)
 generalize jk w1 g1 s5 x5 y5 p5=F at *
 exact bodyPost_ret (v:=.agg #[.bool s5,.int .u64 x5,.int .u64 y5,.pointer p5]) (by simp[results,results116,go_sem,m0,m1,m2,m3]) rfl ⟨_,rfl,hff,hF⟩
def mkR (ks:List Kd) (g:Kd→Rat):Nat→Rat:=sgR (fun j=>(ze ks j).ch*g (ze ks j))
theorem zal (ks:List Kd) (g:Kd→Rat) (n c:Nat) (h1:∀ k,k<n→Len (ze ks k).ch 1) (h2:∀ k,k<n→Len (g (ze ks k)) c):∀ k,k≤n→Len (mkR ks g k) (k*(c+2)+1)
 | 0,_=>len_zero _ (by omega)
 | k+1,hk=>by
  have ih:=zal ks g n c h1 h2 k (by omega)
  show Len (mkR ks g k+(ze ks k).ch*g (ze ks k)) _
  exact zee ih (jo (h1 k (by omega)) (h2 k (by omega)) (c+1) (by omega)) _ (by rw[Nat.succ_mul];omega)
theorem zbz (q:Option Addr) (n cap:Nat) (ks:List Kd) (g:Kd→Rat) (c:Nat) (fo:FuncId) (w:World) (hv:kz w (.slice q n cap) ks) (hN:n=ks.length) (hn:n≤40) (hc:c≤10) (h1:∀ k,k<n→Len (ze ks k).ch 1) (h2:∀ k,k<n→Len (g (ze ks k)) c)
  (EN:∀ args W,(callFunc fo args).run prog W=.ok (.enter fo args) W)
  (OF:∀ s1 x1 y1 p1 s2 x2 y2 p2 s3 x3 y3 p3 k W,k<n→KdOk s1 x1 y1 p1 s2 x2 y2 p2 s3 x3 y3 p3 (ze ks k)→Calls prog fo #[.agg #[.bool s1,.int .u64 x1,.int .u64 y1,.pointer p1,.bool s2,.int .u64 x2,.int .u64 y2,.pointer p2,.bool s3,.int .u64 x3,.int .u64 y3,.pointer p3]] W fun e w'=>∃ v,e=.returned v∧am w' v (g (ze ks k))∧But [] W w') :
  Calls prog 113 #[.slice q n cap,.func (.func fo) #[] #[]] w fun e w'=>∃ v,e=.returned v∧am w' v (mkR ks g n)∧But [] w w':=by
 have HV:=af hv
 have HN:=af hN
 have HEN:=af EN
 have HOF:=af OF
 have LM:=af (zal ks g n c h1 h2)
 have L1:=af h1
 have L2:=af h2
 clear hv hN EN OF h1 h2
 obtain⟨A,hA⟩:∃ A,A=w.alloc (.cells #[.bool false,.int .u64 0,.int .u64 0,.pointer none] 27):=⟨_,rfl⟩
 obtain⟨W,hW⟩:∃ W,W=A.alloc (.cells #[.bool false,.int .u64 0,.int .u64 0,.pointer none] 27):=⟨_,rfl⟩
 have sA:A.heap.size=w.heap.size+1:=by rw[hA];simp
 have bA:But [] w A:=by rw[hA];exact (But.refl _ _).alloc _
 have bW:But [] A W:=by rw[hW];exact (But.refl _ _).alloc _
 have x2:az W w.heap.size 0:=by
  have h:=az.new w false 0 0 none 0 27 (xk _)
  rw[← hA] at h
  exact h.but bW
 have x3:az W (w.heap.size+1) 0:=by
  rw[hW,← sA]
  exact az.new A false 0 0 none 0 27 (xk _)
 have X2:=af x2
 have X3:=af x3
 have BW:=af (bA.trans' bW)
 clear x2 x3 bA bW
 go_enter func113,ntmps113
 go_wp2
 rw[← hA,← hW]
 clear hA hW sA
 generalize hg3:w.heap.size+1=g5 at *
 generalize hg2:w.heap.size=g4 at *
 go_loopw [10] (fun iv wr=>∃ k:Nat,k≤n∧iv=.int .i64 (k:Int)∧Hid (az wr g5 (mkR ks g k)∧az wr g4 0∧But [] w wr)) (fun iv _=>n-(intOf iv).toNat)
 case atStart=>exact⟨0,Nat.zero_le _,rfl,ae X3,ae X2,ae BW⟩
 case round =>
  obtain⟨k,hk,rfl,HI⟩:=hrel
  rename World=>wr
  clear X2 X3 BW
  by_cases hlt:k<n
  ·have hkk:ks[k]? = some (ze ks k):=by
    unfold ze
    rw[List.getElem?_eq_getElem (by have:=ae HN;omega)];rfl
   obtain⟨b,off,s1,x1,y1,p1,s2,x2,y2,p2,s3,x3,y3,p3,rfl,kc,hok⟩:=((ae HV).but (ae HI).2.2).get k hlt _ hkk
   have HOK:Hid (KdOk s1 x1 y1 p1 s2 x2 y2 p2 s3 x3 y3 p3 (ze ks k)):=hok
   have r0:wr.cell? ⟨b,off+k*12,none⟩=some (.bool s1):=kc.1.1
   have r1:wr.cell? ⟨b,off+k*12+1,none⟩=some (.int .u64 x1):=kc.1.2.1
   have r2:wr.cell? ⟨b,off+k*12+2,none⟩=some (.int .u64 y1):=kc.1.2.2.1
   have r3:wr.cell? ⟨b,off+k*12+3,none⟩=some (.pointer p1):=kc.1.2.2.2
   have r4:wr.cell? ⟨b,off+k*12+4,none⟩=some (.bool s2):=kc.2.1.1
   have r5:wr.cell? ⟨b,off+k*12+5,none⟩=some (.int .u64 x2):=kc.2.1.2.1
   have r6:wr.cell? ⟨b,off+k*12+6,none⟩=some (.int .u64 y2):=kc.2.1.2.2.1
   have r7:wr.cell? ⟨b,off+k*12+7,none⟩=some (.pointer p2):=kc.2.1.2.2.2
   have r8:wr.cell? ⟨b,off+k*12+8,none⟩=some (.bool s3):=kc.2.2.1
   have r9:wr.cell? ⟨b,off+k*12+9,none⟩=some (.int .u64 x3):=kc.2.2.2.1
   have r10:wr.cell? ⟨b,off+k*12+10,none⟩=some (.int .u64 y3):=kc.2.2.2.2.1
   have r11:wr.cell? ⟨b,off+k*12+11,none⟩=some (.pointer p3):=kc.2.2.2.2.2
   clear kc hok hkk
   go_wp2
   have bA:But [] wr (wr.alloc (.cells #[.bool s1,.int .u64 x1,.int .u64 y1,.pointer p1,.bool s2,.int .u64 x2,.int .u64 y2,.pointer p2,.bool s3,.int .u64 x3,.int .u64 y3,.pointer p3] 45)):=(But.refl _ _).alloc _
   have kd:K12 (wr.alloc (.cells #[.bool s1,.int .u64 x1,.int .u64 y1,.pointer p1,.bool s2,.int .u64 x2,.int .u64 y2,.pointer p2,.bool s3,.int .u64 x3,.int .u64 y3,.pointer p3] 45)) wr.heap.size 0 s1 x1 y1 p1 s2 x2 y2 p2 s3 x3 y3 p3:=⟨⟨by simp,by simp,by simp,by simp⟩,⟨by simp,by simp,by simp,by simp⟩,⟨by simp,by simp,by simp,by simp⟩⟩
   have D5:=af ((ae HI).1.but bA)
   have D4:=af ((ae HI).2.1.but bA)
   have DB:=af ((ae HI).2.2.trans' bA)
   clear bA r0 r1 r2 r3 r4 r5 r6 r7 r8 r9 r10 r11 HI
   generalize wr.heap.size=g7 at *
   generalize wr.alloc (.cells #[.bool s1,.int .u64 x1,.int .u64 y1,.pointer p1,.bool s2,.int .u64 x2,.int .u64 y2,.pointer p2,.bool s3,.int .u64 x3,.int .u64 y3,.pointer p3] 45)=U at *
   obtain⟨⟨t5,a5,b5,q5,c5,hf5⟩,z5⟩:=ae D5
   have l1:=ae L1 k hlt
   have l2:=ae L2 k hlt
   have hkc:k*(c+2)≤40*12:=Nat.mul_le_mul (by omega) (by omega)
   have lm:=(ae LM k (by omega)).mono (show k*(c+2)+1≤1000 by omega)
   refine meanOf_region 5 _ _ U g7 t5 a5 b5 q5 s1 x1 y1 p1 s2 x2 y2 p2 s3 x3 y3 p3 fo _ _ _ g5 (by simp) (by simp[Act.eval]) c5 z5 (by simp[Act.eval]) (by simp[Act.eval]) c5 kd (ae HEN) (fun w' hb=>ae HOF s1 x1 y1 p1 s2 x2 y2 p2 s3 x3 y3 p3 k w' hlt (ae HOK)) (fun w' hb v' hv'=>lv _ _ _ _ w' ((ae HOK).1 w') hv' (l1.mono (by omega)) (l2.mono (by omega))) (fun w' hb v' hv'=>zcv _ _ _ _ w' (hf5.but hb) hv' (lm.mono (by omega)) ((jo l1 l2 (c+1) (by omega)).mono (by omega))) ?_
   intro w7 v5 v6 s7 x7 y7 p7 hb7 hfz
   simp only[bi,List.foldl_cons,List.foldl_nil,Act.put,List.setIfInBounds_toArray,List.set_cons_zero,List.set_cons_succ]
   change am w7 _ (mkR ks g (k+1)) at hfz
   have hP:=aw w7 g5 s7 x7 y7 p7
   have J5:=af (((ae D5).but hb7).put hfz)
   have J4:=af (((ae D4).but hb7).beside hP (by simp;omega) (fun g hg=>by simp at hg;subst hg;exact ((ae D5).but hb7).bool))
   have JB:=af (((ae DB).trans' hb7).trans hP (fun x hx=>by simp at hx;subst hx;exact .inr (by omega)))
   generalize jk w7 g5 s7 x7 y7 p7=V7 at *
   clear hP hfz hb7 D5 D4 DB c5 hf5 z5 lm l1 l2 hkc kd HOK
   go_wp2
   exact⟨⟨k+1,by omega,by go_num,ae J5,ae J4,ae JB⟩,by simp[intOf];omega⟩
  ·obtain rfl:k=n:=by omega
   obtain⟨⟨⟨t6,a6,b6,q6,⟨d0,d1,d2,d3⟩,hf6⟩,z6⟩,⟨⟨t2,a2,b2,q2,⟨c0,c1,c2,c3⟩,-⟩,z2⟩,hbw⟩:=ae HI
   have HF6:=af hf6
   have HBW:=af hbw
   have P2:Hid (P4 wr g4 t2 a2 b2 q2):=⟨c0,c1,c2,c3⟩
   clear HI hf6 hbw
   go_wp2
   have hP:=aw wr g4 t6 a6 b6 q6
   obtain⟨m0,m1,m2,m3⟩:=wu wr g4 t6 a6 b6 q6 (ae P2)
   have hF:But [] w (jk wr g4 t6 a6 b6 q6):=(ae HBW).trans hP (fun x hx=>by simp at hx;subst hx;exact .inr (by omega))
   have hff:=(ae HF6).over ((ae P2)).1 hP
   change bodyPost _ _ _ _ _ (jk wr g4 t6 a6 b6 q6)
   generalize jk wr g4 t6 a6 b6 q6=F at *
   exact bodyPost_ret (v:=.agg #[.bool t6,.int .u64 a6,.int .u64 b6,.pointer q6]) (by simp[results,results113,go_sem,m0,m1,m2,m3]) rfl ⟨_,rfl,hff,hF⟩
theorem cmpZ_tells (x y:Rat) (r:Int) (hr:r=zem (x.num*(y.den:Int)) (y.num*(x.den:Int))):(r<0↔x<y)∧(0<r↔y<x)∧(r=0↔x=y):=by
 have h1:x<y↔x.num*(y.den:Int)<y.num*(x.den:Int):=Rat.lt_iff x y
 have h2:y<x↔y.num*(x.den:Int)<x.num*(y.den:Int):=Rat.lt_iff y x
 have h3:x=y↔x.num*(y.den:Int)=y.num*(x.den:Int):=by
  constructor
  ·intro h;rw[h]
  ·intro h
   exact Rat.le_antisymm ((Rat.le_iff _ _).2 (by omega)) ((Rat.le_iff _ _).2 (by omega))
 rw[h1,h2,h3,hr]
 unfold zem
 split
 ·omega
 ·split <;> omega
def kndE (ks:List Kd):Int:=if ks.length<1 then 4 else if ks.any (fun k=>decide (k.ch.num<0) || decide (k.sp.num<0)) then 1 else if mkR ks (fun _=>((1:Int):Rat)) ks.length=((1:Int):Rat) then 0 else 10
theorem kd_mem {ks:List Kd} {k:Nat} (h:k<ks.length):ze ks k ∈ ks:=by
 unfold ze
 rw[List.getElem?_eq_getElem h]
 exact List.getElem_mem h
theorem sign_low {z:Int} (h:z<0):z.sign=-1:=Int.sign_eq_neg_one_of_neg h
theorem zgc {z:Int} (h:¬ z<0):0≤z.sign:=by
 rcases Int.lt_trichotomy z 0 with h' | h' | h'
 ·omega
 ·rw[h'];decide
 ·rw[Int.sign_eq_one_of_pos h'];decide
theorem enters_kOne:∀ args W,(callFunc 114 args).run prog W=.ok (.enter 114 args) W:=enters_of func114 (by kernel_rfl) rfl
theorem enters_kMean:∀ args W,(callFunc 115 args).run prog W=.ok (.enter 115 args) W:=enters_of func115 (by kernel_rfl) rfl
theorem enters_kSquare:∀ args W,(callFunc 116 args).run prog W=.ok (.enter 116 args) W:=enters_of func116 (by kernel_rfl) rfl
theorem enters_kSpread:∀ args W,(callFunc 118 args).run prog W=.ok (.enter 118 args) W:=enters_of func118 (by kernel_rfl) rfl
theorem zfv (q:Option Addr) (n cap:Nat) (ks:List Kd) (yr:Int) (w:World) (hv:kz w (.slice q n cap) ks) (hN:n=ks.length) (hn:n≤40) (hy1:1≤yr) (hy2:yr≤120) (lc:∀ k,k<n→Len (ze ks k).ch 1) (_lm:∀ k,k<n→Len (ze ks k).me 1) (_lp:∀ k,k<n→Len (ze ks k).sp 1) :
  Calls prog 52 #[.slice q n cap,.int .i64 yr] w fun e w'=>e=.returned (errV (kndE ks))∧But [] w w':=by
 have HV:=af hv
 have HN:=af hN
 have ME:=af (fun W (h:But [] w W)=>zbz q n cap ks (fun _=>((1:Int):Rat)) 1 114 W (hv.but h) hN hn (by omega) lc (fun k hk=>oo 1 (by decide)) enters_kOne (fun s1 x1 y1 p1 s2 x2 y2 p2 s3 x3 y3 p3 k W hk hok=>kOne_any s1 x1 y1 p1 s2 x2 y2 p2 s3 x3 y3 p3 _ W hok))
 obtain⟨SM,hSM⟩:∃ SM,SM=mkR ks (fun _=>((1:Int):Rat)) n:=⟨_,rfl⟩
 have lS:Len SM 200:=by
  rw[hSM]
  refine (zal ks (fun _=>((1:Int):Rat)) n 1 lc (fun k hk=>oo 1 (by decide)) n (Nat.le_refl _)).mono ?_
  omega
 rw[← hSM] at ME
 obtain⟨ce,hce⟩:∃ ce,ce=kndE ks:=⟨_,rfl⟩
 rw[← hce]
 have HCE:Hid (ce=if n<1 then 4 else if ks.any (fun k=>decide (k.ch.num<0) || decide (k.sp.num<0)) then 1 else if SM=((1:Int):Rat) then 0 else 10):=by
  show _=_
  rw[hce,hSM,hN];rfl
 clear hce hSM hv hN lc _lm _lp
 go_enter func52,ntmps52
 by_cases h0:n<1
 ·obtain rfl:n=0:=by omega
  have e4:ce=4:=by rw[ae HCE,if_pos (by omega)]
  subst e4
  go_wp2
  go_ret
  exact⟨rfl,But.refl _ _⟩
 ·go_wp2
  go_loopw [18] (fun iv wr=>∃ k:Nat,k≤n∧iv=.int .i64 (k:Int)∧Hid ((∀ j,j<k→¬ (ze ks j).ch.num<0∧¬ (ze ks j).sp.num<0)∧But [] w wr)) (fun iv _=>n-(intOf iv).toNat)
  case atStart=>exact⟨0,Nat.zero_le _,rfl,fun j hj=>absurd hj (by omega),But.refl _ _⟩
  case round =>
   obtain⟨k,hk,rfl,HI⟩:=hrel
   rename World=>wr
   by_cases hlt:k<n
   ·have hkl:k<ks.length:=by have:=ae HN;omega
    have hkk:ks[k]? = some (ze ks k):=by
     unfold ze
     rw[List.getElem?_eq_getElem hkl];rfl
    obtain⟨b,off,s1,x1,y1,p1,s2,x2,y2,p2,s3,x3,y3,p3,rfl,kc,hok⟩:=((ae HV).but (ae HI).2).get k hlt _ hkk
    have r0:wr.cell? ⟨b,off+k*12,none⟩=some (.bool s1):=kc.1.1
    have r1:wr.cell? ⟨b,off+k*12+1,none⟩=some (.int .u64 x1):=kc.1.2.1
    have r2:wr.cell? ⟨b,off+k*12+2,none⟩=some (.int .u64 y1):=kc.1.2.2.1
    have r3:wr.cell? ⟨b,off+k*12+3,none⟩=some (.pointer p1):=kc.1.2.2.2
    have r4:wr.cell? ⟨b,off+k*12+4,none⟩=some (.bool s2):=kc.2.1.1
    have r5:wr.cell? ⟨b,off+k*12+5,none⟩=some (.int .u64 x2):=kc.2.1.2.1
    have r6:wr.cell? ⟨b,off+k*12+6,none⟩=some (.int .u64 y2):=kc.2.1.2.2.1
    have r7:wr.cell? ⟨b,off+k*12+7,none⟩=some (.pointer p2):=kc.2.1.2.2.2
    have r8:wr.cell? ⟨b,off+k*12+8,none⟩=some (.bool s3):=kc.2.2.1
    have r9:wr.cell? ⟨b,off+k*12+9,none⟩=some (.int .u64 x3):=kc.2.2.2.1
    have r10:wr.cell? ⟨b,off+k*12+10,none⟩=some (.int .u64 y3):=kc.2.2.2.2.1
    have r11:wr.cell? ⟨b,off+k*12+11,none⟩=some (.pointer p3):=kc.2.2.2.2.2
    have SC:=af (fun W=>jy _ (ze ks k).ch W (hok.1 W))
    have SP:=af (fun W=>jy _ (ze ks k).sp W (hok.2.2 W))
    have HB:=af ((ae HI).2.trans' ((But.refl _ _).alloc (.cells #[.bool s1,.int .u64 x1,.int .u64 y1,.pointer p1,.bool s2,.int .u64 x2,.int .u64 y2,.pointer p2,.bool s3,.int .u64 x3,.int .u64 y3,.pointer p3] 45)))
    have KB:Hid (K12 (wr.alloc (.cells #[.bool s1,.int .u64 x1,.int .u64 y1,.pointer p1,.bool s2,.int .u64 x2,.int .u64 y2,.pointer p2,.bool s3,.int .u64 x3,.int .u64 y3,.pointer p3] 45)) wr.heap.size 0 s1 x1 y1 p1 s2 x2 y2 p2 s3 x3 y3 p3):=⟨⟨by simp,by simp,by simp,by simp⟩,⟨by simp,by simp,by simp,by simp⟩,⟨by simp,by simp,by simp,by simp⟩⟩
    have hbad:(ze ks k).ch.num<0∨(ze ks k).sp.num<0→ce=1:=fun h=>by
     rw[ae HCE,if_neg h0,if_pos (List.any_eq_true.2 ⟨_,kd_mem hkl,by
      rcases h with h | h
      ·rw[decide_eq_true h];rfl
      ·rw[decide_eq_true h,Bool.or_true]⟩)]
    have HBAD:=af hbad
    clear kc hok hkk hbad
    by_cases hc:(ze ks k).ch.num<0
    ·obtain rfl:=ae HBAD (.inl hc)
     rw[sign_low hc] at SC
     go_wp2_with fail
     refine (ae SC _).mono ?_
     rintro e w1 ⟨rfl,hb1⟩
     have B1:=af ((ae HB).trans' hb1)
     clear hb1 r0 r1 r2 r3 r4 r5 r6 r7 r8 r9 r10 r11
     go_wp2
     go_ret
     exact⟨rfl,ae B1⟩
    ·have hsc:=zgc hc
     obtain⟨sc,hsc2⟩:∃ sc,sc=(ze ks k).ch.num.sign:=⟨_,rfl⟩
     rw[← hsc2] at SC hsc
     clear hsc2
     go_wp2_with fail
     refine (ae SC _).mono ?_
     rintro e w1 ⟨rfl,hb1⟩
     have B1:=af ((ae HB).trans' hb1)
     have K1:=af ((ae KB).but hb1 (by simp))
     clear hb1 r0 r1 r2 r3 r4 r5 r6 r7 r8 r9 r10 r11 HB KB SC
     generalize wr.heap.size=g6 at *
     obtain⟨-,-,⟨k8,k9,k10,k11⟩⟩:=ae K1
     simp only[Nat.zero_add,Nat.reduceAdd] at k8 k9 k10 k11
     by_cases hp:(ze ks k).sp.num<0
     ·obtain rfl:=ae HBAD (.inr hp)
      rw[sign_low hp] at SP
      go_wp2_with fail
      refine (ae SP _).mono ?_
      rintro e w2 ⟨rfl,hb2⟩
      have B2:=af ((ae B1).trans' hb2)
      clear hb2
      go_wp2
      go_ret
      exact⟨rfl,ae B2⟩
     ·have hsp:=zgc hp
      obtain⟨sp,hsp2⟩:∃ sp,sp=(ze ks k).sp.num.sign:=⟨_,rfl⟩
      rw[← hsp2] at SP hsp
      clear hsp2
      go_wp2_with fail
      refine (ae SP _).mono ?_
      rintro e w2 ⟨rfl,hb2⟩
      have B2:=af ((ae B1).trans' hb2)
      have HC:=af hc
      have HP:=af hp
      clear hb2 B1 K1 k8 k9 k10 k11 hc hp
      go_wp2
      refine⟨⟨k+1,by omega,by go_num,fun j hj=>?_,ae B2⟩,by simp[intOf];omega⟩
      by_cases e:j=k
      ·subst e
       have h1:=ae HC
       have h2:=ae HP
       exact⟨by omega,by omega⟩
      ·have:=(ae HI).1 j (by omega)
       exact⟨by omega,by omega⟩
   ·obtain rfl:k=n:=by omega
    obtain⟨hall,hbw⟩:=ae HI
    have hno:ks.any (fun k=>decide (k.ch.num<0) || decide (k.sp.num<0))=false:=by
     rw[List.any_eq_false]
     intro z hz
     obtain⟨j,hj,rfl⟩:=List.mem_iff_getElem.1 hz
     have h:=hall j (by have:=ae HN;omega)
     have e:ze ks j=ks[j]:=by
      unfold ze
      rw[List.getElem?_eq_getElem hj];rfl
     rw[e] at h
     rw[decide_eq_false h.1,decide_eq_false h.2]
     decide
    have hce2:ce=if SM=((1:Int):Rat) then 0 else 10:=by rw[ae HCE,if_neg h0,hno];simp
    have HC2:=af hce2
    have HBW:=af hbw
    obtain⟨ws,wx,FW,CW⟩:=zfa 1 (by omega) (by omega)
    have HFW:=af FW
    have HCW:=af CW
    obtain⟨r,hr⟩:∃ r,r=zem (SM.num*((((1:Int):Rat)).den:Int)) ((((1:Int):Rat)).num*(SM.den:Int)):=⟨_,rfl⟩
    have h3:=(cmpZ_tells SM ((1:Int):Rat) r hr).2.2
    have H3:=af h3
    have HR:=af hr
    clear hall hbw hno hce2 HI FW CW h3 hr
    go_wp2_with fail
    refine (ae ME _ (ae HBW)).mono ?_
    rintro e w1 ⟨v1,rfl,hf1,hb1⟩
    have B1:=af ((ae HBW).trans' hb1)
    obtain⟨x1,y1,p1,rfl,-⟩:=id hf1.agg
    generalize decide (SM.num<0)=s1 at *
    have F1:=af hf1
    clear hb1 hf1 ME
    go_wp2_with fail
    refine (ae HCW _).mono ?_
    rintro e w2 ⟨rfl,hb2⟩
    have B2:=af ((ae B1).trans' hb2)
    have CM:=af (fracCmp_any _ _ SM ((1:Int):Rat) w2 ((ae F1).but hb2) (ae HFW w2) (lS.mono (by omega)) ((oo 1 (by decide)).mono (by omega)) r (ae HR))
    clear hb2 B1 F1 HCW
    go_wp2_with fail
    refine (ae CM).mono ?_
    rintro e w3 ⟨rfl,hb3⟩
    have B3:=af ((ae B2).trans' hb3)
    clear hb3 B2 CM
    by_cases hr0:r=0
    ·have e0:ce=0:=by rw[ae HC2,if_pos ((ae H3).1 hr0)]
     subst e0
     subst hr0
     go_wp2
     go_ret
     exact⟨rfl,ae B3⟩
    ·have e0:ce=10:=by rw[ae HC2,if_neg (fun h=>hr0 ((ae H3).2 h))]
     subst e0
     go_wp2
     go_ret
     exact⟨rfl,ae B3⟩
theorem mixOf_any (q:Option Addr) (n cap:Nat) (ks:List Kd) (yr:Int) (w:World) (hv:kz w (.slice q n cap) ks) (hN:n=ks.length) (hn:n≤40) (hy1:1≤yr) (hy2:yr≤120) (lc:∀ k,k<n→Len (ze ks k).ch 1) (lm:∀ k,k<n→Len (ze ks k).me 1) (lp:∀ k,k<n→Len (ze ks k).sp 1) :
  Calls prog 53 #[.slice q n cap,.int .i64 yr] w fun e w'=>∃ v,e=.returned v∧zac (mkR ks (fun k=>k.me) n) (mkR ks (fun k=>k.me*k.me) n-mkR ks (fun k=>k.me) n*mkR ks (fun k=>k.me) n) (mkR ks (fun k=>k.sp) n/((yr:Int):Rat)) w' v∧But [] w w':=by
 have M1:=af (fun W (h:But [] w W)=>zbz q n cap ks (fun k=>k.me) 1 115 W (hv.but h) hN hn (by omega) lc lm enters_kMean (fun s1 x1 y1 p1 s2 x2 y2 p2 s3 x3 y3 p3 k W hk hok=>kMean_any s1 x1 y1 p1 s2 x2 y2 p2 s3 x3 y3 p3 _ W hok))
 have M2:=af (fun W (h:But [] w W)=>zbz q n cap ks (fun k=>k.me*k.me) 2 116 W (hv.but h) hN hn (by omega) lc (fun k hk=>jo (lm k hk) (lm k hk) 2 (by omega)) enters_kSquare (fun s1 x1 y1 p1 s2 x2 y2 p2 s3 x3 y3 p3 k W hk hok=>kSquare_any s1 x1 y1 p1 s2 x2 y2 p2 s3 x3 y3 p3 _ W hok ((lm k hk).mono (by omega))))
 have M3:=af (fun W (h:But [] w W)=>zbz q n cap ks (fun k=>k.sp) 1 118 W (hv.but h) hN hn (by omega) lc lp enters_kSpread (fun s1 x1 y1 p1 s2 x2 y2 p2 s3 x3 y3 p3 k W hk hok=>kSpread_any s1 x1 y1 p1 s2 x2 y2 p2 s3 x3 y3 p3 _ W hok))
 have l1:Len (mkR ks (fun k=>k.me) n) 500:=(zal ks (fun k=>k.me) n 1 lc lm n (Nat.le_refl _)).mono (by omega)
 have l2:Len (mkR ks (fun k=>k.me*k.me) n) 500:=(zal ks (fun k=>k.me*k.me) n 2 lc (fun k hk=>jo (lm k hk) (lm k hk) 2 (by omega)) n (Nat.le_refl _)).mono (by omega)
 have l3:Len (mkR ks (fun k=>k.sp) n) 500:=(zal ks (fun k=>k.sp) n 1 lc lp n (Nat.le_refl _)).mono (by omega)
 generalize mkR ks (fun k=>k.me) n=A1 at *
 generalize mkR ks (fun k=>k.me*k.me) n=A2 at *
 generalize mkR ks (fun k=>k.sp) n=A3 at *
 have x4:dm (w.alloc (.cells #[.bool false,.int .u64 0,.int .u64 0,.pointer none,.bool false,.int .u64 0,.int .u64 0,.pointer none,.bool false,.int .u64 0,.int .u64 0,.pointer none] 112)) w.heap.size [.bool false,.int .u64 0,.int .u64 0,.pointer none,.bool false,.int .u64 0,.int .u64 0,.pointer none,.bool false,.int .u64 0,.int .u64 0,.pointer none]:=dm.new w _ _
 have bA:But [] w (w.alloc (.cells #[.bool false,.int .u64 0,.int .u64 0,.pointer none,.bool false,.int .u64 0,.int .u64 0,.pointer none,.bool false,.int .u64 0,.int .u64 0,.pointer none] 112)):=(But.refl _ _).alloc _
 have X4:=af x4
 have BA:=af bA
 have Q2:Hid (w.heap.size≤w.heap.size):=Nat.le_refl _
 clear x4 bA hv lc lm lp hN
 go_enter func53,ntmps53
 go_wp2_with fail
 refine (ae M1 _ (ae BA)).mono ?_
 rintro e w1 ⟨v1,rfl,hf1,hb1⟩
 obtain⟨x1,y1,p1,rfl,-⟩:=id hf1.agg
 generalize decide (A1.num<0)=s1 at *
 have bs1:=hb1.trans' ((But.refl _ _).alloc (.cells #[.bool s1,.int .u64 x1,.int .u64 y1,.pointer p1] 27))
 have B1:=af ((ae BA).trans' bs1)
 have X41:=af ((ae X4).but bs1 (by simp) (by simp))
 have Y1:=af (az.new w1 s1 x1 y1 p1 _ 27 hf1)
 clear hb1 hf1 bs1 X4 BA M1
 go_wp2_with fail
 generalize w1.heap.size=g5 at *
 generalize w1.alloc (.cells #[.bool s1,.int .u64 x1,.int .u64 y1,.pointer p1] 27)=V1 at *
 refine (ae M2 _ (ae B1)).mono ?_
 rintro e w2 ⟨v2,rfl,hf2,hb2⟩
 obtain⟨x2,y2,p2,rfl,-⟩:=id hf2.agg
 generalize decide (A2.num<0)=s2 at *
 have bs2:=hb2.trans' ((But.refl _ _).alloc (.cells #[.bool s2,.int .u64 x2,.int .u64 y2,.pointer p2] 27))
 have B2:=af ((ae B1).trans' bs2)
 have X42:=af ((ae X41).but bs2 (by simp) (by simp))
 have Y12:=af ((ae Y1).but bs2)
 have Y2:=af (az.new w2 s2 x2 y2 p2 _ 27 hf2)
 clear hb2 hf2 bs2 X41 B1 Y1 M2
 go_wp2_with fail
 generalize w2.heap.size=g6 at *
 generalize w2.alloc (.cells #[.bool s2,.int .u64 x2,.int .u64 y2,.pointer p2] 27)=V2 at *
 refine (ae M3 _ (ae B2)).mono ?_
 rintro e w3 ⟨v3,rfl,hf3,hb3⟩
 obtain⟨x3,y3,p3,rfl,-⟩:=id hf3.agg
 generalize decide (A3.num<0)=s3 at *
 have bs3:=hb3.trans' ((But.refl _ _).alloc (.cells #[.bool s3,.int .u64 x3,.int .u64 y3,.pointer p3] 27))
 have B3:=af ((ae B2).trans' bs3)
 have X43:=af ((ae X42).but bs3 (by simp) (by simp))
 have Y13:=af ((ae Y12).but bs3)
 have Y23:=af ((ae Y2).but bs3)
 have Y3:=af (az.new w3 s3 x3 y3 p3 _ 27 hf3)
 clear hb3 hf3 bs3 X42 B2 Y12 Y2 M3
 go_wp2
 generalize w3.heap.size=g7 at *
 generalize w3.alloc (.cells #[.bool s3,.int .u64 x3,.int .u64 y3,.pointer p3] 27)=V3 at *
 generalize hg4:w.heap.size=g4 at *
 obtain⟨⟨t1,a1,b1,q1,k1,f1⟩,-⟩:=ae Y13
 obtain⟨⟨t2,a2,b2,q2,k2,f2⟩,-⟩:=ae Y23
 obtain⟨⟨t3,a3,b3,q3,k3,f3⟩,-⟩:=ae Y3
 have lq:=jo l1 l1 1000 (by omega)
 refine mixOf_region 4 _ _ V3 yr t1 a1 b1 q1 t2 a2 b2 q2 t3 a3 b3 q3 A1 A2 A3 g4 g5 g6 g7 (by simp) (by simp[Act.eval]) (ae X43) rfl (by simp[Act.eval]) (by simp[Act.eval]) (by simp[Act.eval]) (by simp[Act.eval]) k1 k2 k3 f1 (fun W hb=>zbr _ _ W (f1.but hb) (l1.mono (by omega))) (fun W hb v hv=>zfr _ _ _ _ W (f2.but hb) hv (l2.mono (by omega)) (lq.mono (by omega))) (fun W hb=>creditQuot_any _ _ yr W (f3.but hb) (l3.mono (by omega)) hy1 (by omega)) ?_
 intro w4 v0 v3' v4 v7 e1 e2 e3 e4 e5 e6 e7 e8 e9 e10 e11 e12 hb4 h1 h2 h3
 simp only[bi,List.foldl_cons,List.foldl_nil,Act.put,List.setIfInBounds_toArray,List.set_cons_zero,List.set_cons_succ]
 have X44:=(ae X43).but hb4 (by simp) (by simp)
 have hS:=bk w4 g4 [.bool e1,.int .u64 e2,.int .u64 e3,.pointer e4,.bool e5,.int .u64 e6,.int .u64 e7,.pointer e8,.bool e9,.int .u64 e10,.int .u64 e11,.pointer e12] 0
 have P:=X44.put (us:=[.bool e1,.int .u64 e2,.int .u64 e3,.pointer e4,.bool e5,.int .u64 e6,.int .u64 e7,.pointer e8,.bool e9,.int .u64 e10,.int .u64 e11,.pointer e12]) rfl
 have m0:=P.cells 0 _ rfl
 have m1:=P.cells 1 _ rfl
 have m2:=P.cells 2 _ rfl
 have m3:=P.cells 3 _ rfl
 have m4:=P.cells 4 _ rfl
 have m5:=P.cells 5 _ rfl
 have m6:=P.cells 6 _ rfl
 have m7:=P.cells 7 _ rfl
 have m8:=P.cells 8 _ rfl
 have m9:=P.cells 9 _ rfl
 have m10:=P.cells 10 _ rfl
 have m11:=P.cells 11 _ rfl
 have c0:=X44.cells 0 _ rfl
 have hF:But [] w (w4.setCells g4 0 [.bool e1,.int .u64 e2,.int .u64 e3,.pointer e4,.bool e5,.int .u64 e6,.int .u64 e7,.pointer e8,.bool e9,.int .u64 e10,.int .u64 e11,.pointer e12]):=((ae B3).trans' hb4).trans hS (fun x hx=>by simp at hx;subst hx;exact .inr (by omega))
 have h1':=h1.over c0 hS
 have h2':=h2.over c0 hS
 have h3':=h3.over c0 hS
 generalize w4.setCells g4 0 [.bool e1,.int .u64 e2,.int .u64 e3,.pointer e4,.bool e5,.int .u64 e6,.int .u64 e7,.pointer e8,.bool e9,.int .u64 e10,.int .u64 e11,.pointer e12]=F at *
 clear P X44 hS c0 h1 h2 h3 hb4 k1 k2 k3 f1 f2 f3
 go_wp2
 exact bodyPost_ret (v:=.agg #[.bool e1,.int .u64 e2,.int .u64 e3,.pointer e4,.bool e5,.int .u64 e6,.int .u64 e7,.pointer e8,.bool e9,.int .u64 e10,.int .u64 e11,.pointer e12]) (by simp[results,results53,go_sem,m0,m1,m2,m3,m4,m5,m6,m7,m8,m9,m10,m11]) rfl ⟨_,rfl,⟨e1,e2,e3,e4,e5,e6,e7,e8,e9,e10,e11,e12,rfl,h1',h2',h3'⟩,hF⟩
set_option linter.unusedVariables false
def subBV (xb yb:Nat) (N:Nat × Nat × Nat × Nat) (i:Nat):Value:=match i with
 | 0=>.pointer (some ⟨N.1,0,none⟩)
 | 1=>.pointer (some ⟨N.2.1,0,none⟩)
 | 2=>.pointer (some ⟨xb,0,none⟩)
 | 3=>.pointer (some ⟨xb,0,none⟩)
 | 4=>.pointer (some ⟨xb,0,none⟩)
 | 5=>.pointer (some ⟨yb,0,none⟩)
 | 6=>.pointer (some ⟨N.2.2.2,0,none⟩)
 | 7=>.pointer (some ⟨N.2.1,0,none⟩)
 | 8=>.pointer (some ⟨N.2.2.1,0,none⟩)
 | 9=>.pointer (some ⟨yb,0,none⟩)
 | 10=>.pointer (some ⟨yb,0,none⟩)
 | 11=>.pointer (some ⟨yb,0,none⟩)
 | 12=>.pointer (some ⟨xb,0,none⟩)
 | 13=>.pointer (some ⟨xb,2,none⟩)
 | 14=>.pointer (some ⟨N.2.2.1,0,none⟩)
 | 15=>.pointer (some ⟨N.1,0,none⟩)
 | _=>.pointer (some ⟨N.1,0,none⟩)
theorem sbb_dep:uj jh [(3,2),(4,3),(6,5),(7,1),(7,4),(7,6),(10,9),(11,10),(13,7),(13,12),(14,8),(14,11),(14,13),(15,0),(15,7),(15,14),(16,0),(16,1),(16,2),(16,3),(16,4),(16,5),(16,6),(16,7),(16,8),(16,9),(16,10),(16,11),(16,12),(16,13),(16,14),(16,15)]=true:=by kernel_rfl
theorem sbb_region (id:Nat) (Q:Exit→Act→World→Prop) (base:Act) (W0:World) (xb yb:Nat) (x y P Z R:Int) (nx ny:Nat) (hs:23<base.tmps.size) (e1:base.eval (.tmp 1)=.pointer (some ⟨xb,0,none⟩)) (e2:base.eval (.tmp 2)=.pointer (some ⟨yb,0,none⟩))
  (hx:zt W0 xb x (nx:Int)) (hy:j4 W0 yb) (hy0:y=0) (hny1:(ny:Int)=1) (hnx:0<nx) (hxl:(wd 4294967296 x.natAbs).length<8388608) (hyl:(wd 4294967296 y.natAbs).length<8388608) (hnxl:(wd 4294967296 nx).length<8388608) (hnyl:(wd 4294967296 ny).length<8388608) (hP:x*(ny:Int)=P) (hZ:y*(nx:Int)=Z) (hR:R=P-Z) (hPl:(wd 4294967296 P.natAbs).length<8388608) (hZl:(wd 4294967296 Z.natAbs).length<8388608) (hRl:(wd 4294967296 R.natAbs).length<8388608)
  (hQ:∀ w b0 b1 b8 bd,But [] W0 w→W0.heap.size≤b0→zh w b0 0 R→Q .normal (bi base [(8,.pointer (some ⟨b0,0,none⟩)),(9,.pointer (some ⟨b1,0,none⟩)),(10,.pointer (some ⟨xb,0,none⟩)),(11,.pointer (some ⟨xb,0,none⟩)),(12,.pointer (some ⟨xb,0,none⟩)),(13,.pointer (some ⟨yb,0,none⟩)),(14,.pointer (some ⟨bd,0,none⟩)),(15,.pointer (some ⟨b1,0,none⟩)),(16,.pointer (some ⟨b8,0,none⟩)),(17,.pointer (some ⟨yb,0,none⟩)),(18,.pointer (some ⟨yb,0,none⟩)),(19,.pointer (some ⟨yb,0,none⟩)),(20,.pointer (some ⟨xb,0,none⟩)),(21,.pointer (some ⟨xb,2,none⟩)),(22,.pointer (some ⟨b8,0,none⟩)),(23,.pointer (some ⟨b0,0,none⟩)),(7,.pointer (some ⟨b0,0,none⟩))]) w) :
  (Code.region id jh true).wp prog Q base W0:=by
 have hdr:∀ {w},But [] W0.drew w→But [] W0 w:=fun h=>(But.refl _ _).drew.trans' h
 have hT:∀ i,i<17→zeq i<base.tmps.size:=fun i hi=>by
  have h:zeq i≤23:=by revert i;decide
  omega
 have lx:=hx.lt
 have ly:=hy.lt
 refine zea (by kernel_rfl) (ay (by kernel_rfl)) (zan (by kernel_rfl)) (α:=Nat × Nat × Nat × Nat) (fun N d w=>xw W0.drew P Z R N.1 N.2.1 N.2.2.1 (d 0) (d 1) (d 8) (d 7) (d 14) (d 15) (d 16) w∧(d 6=true→d 7=false→zh w N.2.2.2 0 (ny:Int)∧(d 1=true→N.2.2.2≠N.2.1))) (subBV xb yb) zeq 17 (by kernel_rfl) subOT_inj hT (0,0,0,0) ?_ ?_ ?_
 ·exact⟨⟨But.refl _ _,by simp,by simp,by simp,by simp,by simp,by simp,by simp,by simp,by simp,by simp⟩,fun h=>by simp at h⟩
 ·rintro ⟨b0,b1,b8,bd⟩ d i o a w K hi ho hdi hCl hH he hdep hk
  have hH':xw W0.drew P Z R b0 b1 b8 (d 0) (d 1) (d 8) (d 7) (d 14) (d 15) (d 16) w:=hH.1
  have hX:d 6=true→d 7=false→zh w bd 0 (ny:Int)∧(d 1=true→bd≠b1):=hH.2
  have hD:=zdd sbb_dep ho (fun j=>d j=true∧a.eval (.tmp (zeq j))=subBV xb yb (b0,b1,b8,bd) j) hdep
  have e1':=(he 1 (fun j hj e=>absurd e.symm (by revert j;decide))).trans e1
  have e2':=(he 2 (fun j hj e=>absurd e.symm (by revert j;decide))).trans e2
  have hB:=hdr hH'.but
  have hlw:=hB.size
  have:i=0∨i=1∨i=2∨i=3∨i=4∨i=5∨i=6∨i=7∨i=8∨i=9∨i=10∨i=11∨i=12∨i=13∨i=14∨i=15∨i=16:=by omega
  rcases this with rfl|rfl|rfl|rfl|rfl|rfl|rfl|rfl|rfl|rfl|rfl|rfl|rfl|rfl|rfl|rfl|rfl
  ·obtain rfl:=so (show jh[0]? =some subO0 from rfl) ho
   rw[hdi] at hH'
   refine zi (wo a w _ _ _ _) (hk (w.heap.size,b1,b8,bd) _ _ rfl (fun j hj hdj=>?_) ⟨hH'.alloc0 _,fun h1 h2=>⟨(hX h1 h2).1.but ((But.refl _ _).alloc _),(hX h1 h2).2⟩⟩)
   have:j=0∨j=1∨j=2∨j=3∨j=4∨j=5∨j=6∨j=7∨j=8∨j=9∨j=10∨j=11∨j=12∨j=13∨j=14∨j=15∨j=16:=by omega
   rcases this with rfl|rfl|rfl|rfl|rfl|rfl|rfl|rfl|rfl|rfl|rfl|rfl|rfl|rfl|rfl|rfl|rfl
   all_goals first
    | rfl
    | (rw[hdi] at hdj;simp at hdj)
    | (exfalso;first | (have:=(hH'.hr hdj).1;simp at this) | (have:=(hH'.hr (hH'.hz hdj)).1;simp at this))
  ·obtain rfl:=so (show jh[1]? =some subO1 from rfl) ho
   rw[hdi] at hH'
   refine zi (wo a w _ _ _ _) (hk (b0,w.heap.size,b8,bd) _ _ rfl (fun j hj hdj=>?_) ⟨hH'.alloc1 _,fun h1 h2=>⟨(hX h1 h2).1.but ((But.refl _ _).alloc _),fun _=>Nat.ne_of_lt (hX h1 h2).1.lt⟩⟩)
   have:j=0∨j=1∨j=2∨j=3∨j=4∨j=5∨j=6∨j=7∨j=8∨j=9∨j=10∨j=11∨j=12∨j=13∨j=14∨j=15∨j=16:=by omega
   rcases this with rfl|rfl|rfl|rfl|rfl|rfl|rfl|rfl|rfl|rfl|rfl|rfl|rfl|rfl|rfl|rfl|rfl
   all_goals first
    | rfl
    | (rw[hdi] at hdj;simp at hdj)
    | (exfalso;have:=(hH'.hp hdj).1;simp at this)
  ·obtain rfl:=so (show jh[2]? =some subO2 from rfl) ho
   exact zi (ko a w _ _ _ _ _ _ e1') (hk (b0,b1,b8,bd) _ _ rfl (fun _ _ _=>rfl) hH)
  ·obtain rfl:=so (show jh[3]? =some subO3 from rfl) ho
   exact zi (zde a w _ _ _ _ _ _ 0 (hD 2 (by simp)).2) (hk (b0,b1,b8,bd) _ _ rfl (fun _ _ _=>rfl) hH)
  ·obtain rfl:=so (show jh[4]? =some subO4 from rfl) ho
   exact zi (zae a w _ _ _ _ _ _ (hD 3 (by simp)).2 (by omega)) (hk (b0,b1,b8,bd) _ _ rfl (fun _ _ _=>rfl) hH)
  ·obtain rfl:=so (show jh[5]? =some subO5 from rfl) ho
   exact zi (ko a w _ _ _ _ _ _ e2') (hk (b0,b1,b8,bd) _ _ rfl (fun _ _ _=>rfl) hH)
  ·obtain rfl:=so (show jh[6]? =some subO6 from rfl) ho
   refine jb (o8 a w _ _ _ _ _ _ (hD 5 (by simp)).2) (R:=fun w' v=>∃ q,v=.pointer (some ⟨q,0,none⟩)∧w.heap.size≤q∧But [] w w'∧zh w' q 0 1) ((zgp yb w (hy.but hB)).mono (fun e w' ⟨q,h1,h2,h3,h4⟩=>⟨_,h1,q,rfl,h2,h3,h4⟩)) ?_
   rintro v w' ⟨q,rfl,hq,hb,hI⟩
   refine hk (b0,b1,b8,q) _ _ rfl (fun j hj hdj=>?_) ⟨hH'.stay hb,fun _ _=>⟨by rw[hny1];exact hI,fun h1=>Ne.symm (Nat.ne_of_lt (Nat.lt_of_lt_of_le (hH'.s1 h1).2.1 hq))⟩⟩
   have:j=0∨j=1∨j=2∨j=3∨j=4∨j=5∨j=6∨j=7∨j=8∨j=9∨j=10∨j=11∨j=12∨j=13∨j=14∨j=15∨j=16:=by omega
   rcases this with rfl|rfl|rfl|rfl|rfl|rfl|rfl|rfl|rfl|rfl|rfl|rfl|rfl|rfl|rfl|rfl|rfl
   all_goals first
    | rfl
    | (rw[hdi] at hdj;simp at hdj)
  ·obtain rfl:=so (show jh[7]? =some subO7 from rfl) ho
   have hs1:=hH'.s1 (hD 1 (by simp)).1
   rw[hdi] at hs1
   refine jb (mh a w _ _ _ _ _ _ _ _ _ _ (hD 1 (by simp)).2 (hD 4 (by simp)).2 (hD 6 (by simp)).2) (R:=fun w' v=>v=.pointer (some ⟨b1,0,none⟩)∧But [] W0.drew w'∧zh w' b1 0 P∧(∀ B,B≠b1→Slot w B 0→Slot w' B 0)∧(∀ b o z',b≠b1→zh w b o z'→zh w' b o z')∧w.heap.size≤w'.heap.size) ((zfq b1 xb 0 bd 0 x (ny:Int) P hP W0.drew w (hs1.2.2 rfl) hH'.but hs1.1 ((zh.drew hx.up).but hH'.but) (hX (hD 6 (by simp)).1 hdi).1 (Ne.symm (Nat.ne_of_lt (Nat.lt_of_lt_of_le lx hs1.1))) (Ne.symm ((hX (hD 6 (by simp)).1 hdi).2 (hD 1 (by simp)).1)) hxl (by rw[Int.natAbs_natCast];exact hnyl) hPl).mono (fun e w' h=>⟨_,h.1,rfl,h.2⟩)) ?_
   rintro v w' ⟨rfl,k1,k2,k3,k4,k5⟩
   rw[hdi,(hD 1 (by simp)).1] at hH'
   refine hk (b0,b1,b8,bd) _ _ rfl (fun _ _ _=>rfl) ⟨?_,fun _ h2=>absurd h2 (by rw[yt];simp)⟩
   show xw W0.drew P Z R b0 b1 b8 (d 0) (d 1) (d 8) true (d 14) (d 15) (d 16) w'
   rw[(hD 1 (by simp)).1]
   exact hH'.mulP k1 k2 k3 k4 k5
  ·obtain rfl:=so (show jh[8]? =some subO8 from rfl) ho
   rw[hdi] at hH'
   refine zi (wo a w _ _ _ _) (hk (b0,b1,w.heap.size,bd) _ _ rfl (fun j hj hdj=>?_) ⟨hH'.alloc8 _,fun h1 h2=>⟨(hX h1 h2).1.but ((But.refl _ _).alloc _),(hX h1 h2).2⟩⟩)
   have:j=0∨j=1∨j=2∨j=3∨j=4∨j=5∨j=6∨j=7∨j=8∨j=9∨j=10∨j=11∨j=12∨j=13∨j=14∨j=15∨j=16:=by omega
   rcases this with rfl|rfl|rfl|rfl|rfl|rfl|rfl|rfl|rfl|rfl|rfl|rfl|rfl|rfl|rfl|rfl|rfl
   all_goals first
    | rfl
    | (rw[hdi] at hdj;simp at hdj)
    | (exfalso;have:=(hH'.hq hdj).1;simp at this)
  ·obtain rfl:=so (show jh[9]? =some subO9 from rfl) ho
   exact zi (ko a w _ _ _ _ _ _ e2') (hk (b0,b1,b8,bd) _ _ rfl (fun _ _ _=>rfl) hH)
  ·obtain rfl:=so (show jh[10]? =some subO10 from rfl) ho
   exact zi (zde a w _ _ _ _ _ _ 0 (hD 9 (by simp)).2) (hk (b0,b1,b8,bd) _ _ rfl (fun _ _ _=>rfl) hH)
  ·obtain rfl:=so (show jh[11]? =some subO11 from rfl) ho
   exact zi (zae a w _ _ _ _ _ _ (hD 10 (by simp)).2 (by omega)) (hk (b0,b1,b8,bd) _ _ rfl (fun _ _ _=>rfl) hH)
  ·obtain rfl:=so (show jh[12]? =some subO12 from rfl) ho
   exact zi (ko a w _ _ _ _ _ _ e1') (hk (b0,b1,b8,bd) _ _ rfl (fun _ _ _=>rfl) hH)
  ·obtain rfl:=so (show jh[13]? =some subO13 from rfl) ho
   refine jb (o8 a w _ _ _ _ _ _ (hD 12 (by simp)).2) (R:=fun w' v=>v=.pointer (some ⟨xb,2,none⟩)∧w'=w) ((j3 xb x nx w (hx.but hB) hnx).mono (fun e w' h=>⟨_,h.1,rfl,h.2⟩)) ?_
   rintro v w' ⟨rfl,rfl⟩
   exact hk (b0,b1,b8,bd) _ _ rfl (fun _ _ _=>rfl) hH
  ·obtain rfl:=so (show jh[14]? =some subO14 from rfl) ho
   have hs1:=hH'.s8 (hD 8 (by simp)).1
   rw[hdi] at hs1
   refine jb (mh a w _ _ _ _ _ _ _ _ _ _ (hD 8 (by simp)).2 (hD 11 (by simp)).2 (hD 13 (by simp)).2) (R:=fun w' v=>v=.pointer (some ⟨b8,0,none⟩)∧But [] W0.drew w'∧zh w' b8 0 Z∧(∀ B,B≠b8→Slot w B 0→Slot w' B 0)∧(∀ b o z',b≠b8→zh w b o z'→zh w' b o z')∧w.heap.size≤w'.heap.size) ((q9 b8 yb 0 xb 2 y (nx:Int) Z hZ W0.drew w (hs1.2.2 rfl) hH'.but hs1.1 (by rw[hy0];exact hy.1) hx.drew.low hyl (by rw[Int.natAbs_natCast];exact hnxl) hZl).mono (fun e w' h=>⟨_,h.1,rfl,h.2⟩)) ?_
   rintro v w' ⟨rfl,k1,k2,k3,k4,k5⟩
   rw[hdi,(hD 8 (by simp)).1] at hH'
   refine hk (b0,b1,b8,bd) _ _ rfl (fun _ _ _=>rfl) ⟨?_,fun _ h2=>absurd ((hD 13 (by simp)).1.symm.trans (hCl.not sbb_dep (i:=13) (j:=7) (by simp) h2)) (by simp)⟩
   show xw W0.drew P Z R b0 b1 b8 (d 0) (d 1) (d 8) (d 7) true (d 15) (d 16) w'
   rw[(hD 8 (by simp)).1]
   exact hH'.mulQ k1 k2 k3 k4 k5
  ·obtain rfl:=so (show jh[15]? =some subO15 from rfl) ho
   have d0:=(hD 0 (by simp)).1
   have hs1:=hH'.s0 d0
   rw[hdi] at hs1
   have hp7:=hH'.hp (hD 7 (by simp)).1
   have hq14:=hH'.hq (hD 14 (by simp)).1
   refine jb (run_callSubI a w _ _ _ _ _ _ _ _ _ _ (hD 0 (by simp)).2 (hD 7 (by simp)).2 (hD 14 (by simp)).2) (R:=fun w' v=>v=.pointer (some ⟨b0,0,none⟩)∧But [] W0.drew w'∧zh w' b0 0 R∧(∀ B,B≠b0→Slot w B 0→Slot w' B 0)∧(∀ b o z',b≠b0→zh w b o z'→zh w' b o z')∧w.heap.size≤w'.heap.size) ((intSubU_any b0 0 b1 0 b8 0 P Z R w (hs1.2.2 rfl) (hH'.n01 d0 hp7.1) (hH'.n08 d0 hq14.1) hp7.2 hq14.2 hPl hZl (by omega) hR).mono (fun e w' h=>by
    obtain⟨h1,w1,v,h2,h3,rfl⟩:=h
    exact⟨_,h1,rfl,intSum_new (hs1.2.2 rfl) hH'.but hs1.1 h2 h3⟩)) ?_
   rintro v w' ⟨rfl,k1,k2,k3,k4,k5⟩
   rw[hdi,d0] at hH'
   refine hk (b0,b1,b8,bd) _ _ rfl (fun _ _ _=>rfl) ⟨?_,fun _ h2=>absurd ((hD 7 (by simp)).1.symm.trans h2) (by simp)⟩
   show xw W0.drew P Z R b0 b1 b8 (d 0) (d 1) (d 8) (d 7) (d 14) true (d 16) w'
   rw[d0]
   exact hH'.sumR k1 k2 k3 k4 k5
  ·obtain rfl:=so (show jh[16]? =some subO16 from rfl) ho
   have d15:=(hD 15 (by simp)).1
   rw[d15] at hH'
   refine zi (run_assP a w _ _ _ _ _ _ (hD 15 (by simp)).2) (hk (b0,b1,b8,bd) _ _ rfl (fun _ _ _=>rfl) ⟨?_,fun _ h2=>absurd ((hD 7 (by simp)).1.symm.trans h2) (by simp)⟩)
   show xw W0.drew P Z R b0 b1 b8 (d 0) (d 1) (d 8) (d 7) (d 14) (d 15) true w
   rw[d15]
   exact hH'.done
 ·rintro ⟨b0,b1,b8,bd⟩ d w hd hH
  have hH':xw W0.drew P Z R b0 b1 b8 (d 0) (d 1) (d 8) (d 7) (d 14) (d 15) (d 16) w:=hH.1
  exact hQ w b0 b1 b8 bd (hdr hH'.but) (hH'.s0 (hd 0 (by omega))).1 (hH'.hr (hd 15 (by omega))).2
theorem ratSubB_any (zb xb yb:Nat) (x y:Int) (nx ny:Nat) (w:World) (hz0:Slot w zb 0) (hz2:Slot w zb 2) (hx:zt w xb x (nx:Int)) (hy:j4 w yb) (hy0:y=0) (hny1:(ny:Int)=1) (hnx:0<nx) (hxl:(wd 4294967296 x.natAbs).length<8388608) (hyl:(wd 4294967296 y.natAbs).length<8388608) (hnxl:(wd 4294967296 nx).length<8388608) (hnyl:(wd 4294967296 ny).length<8388608) (P Z R D:Int) (hP:x*(ny:Int)=P) (hZ:y*(nx:Int)=Z) (hR:R=P-Z) (hD:(nx:Int)*(ny:Int)=D) (hPl:(wd 4294967296 P.natAbs).length<8388608) (hZl:(wd 4294967296 Z.natAbs).length<8388608) (hRl:(wd 4294967296 R.natAbs).length<8388608) (hDl:(wd 4294967296 D.natAbs).length<8388608) (hD0:D≠0) (A B:Int) (eA:Hid (A=zda (if D<0 then -R else R) D.natAbs)) (eB:Hid (B=zdb R D.natAbs)) :
  Calls prog 107 #[.pointer (some ⟨zb,0,none⟩),.pointer (some ⟨xb,0,none⟩),.pointer (some ⟨yb,0,none⟩)] w fun e w'=>e=.returned (.pointer (some ⟨zb,0,none⟩))∧But [zb] w w'∧zt w' zb A B:=by
 have HX:=af hx
 have HY:=af hy
 have HZ0:=af hz0
 have HZ2:=af hz2
 have REG:=af (fun (Q:Exit→Act→World→Prop) (base:Act) (hs:23<base.tmps.size) (e1:base.eval (.tmp 1)=.pointer (some ⟨xb,0,none⟩)) (e2:base.eval (.tmp 2)=.pointer (some ⟨yb,0,none⟩))=>sbb_region 1 Q base w xb yb x y P Z R nx ny hs e1 e2 hx hy hy0 hny1 hnx hxl hyl hnxl hnyl hP hZ hR hPl hZl hRl)
 have DX:=af (fun W (h:zt W xb x (nx:Int))=>j3 xb x nx W h hnx)
 have DY:=af (fun W (h:j4 W yb)=>zgp yb W h)
 have MU:=af (fun (A q:Nat) (w P:World) (hs:Slot P A 0) (hw:But [] w P) (hA:w.heap.size≤A) (hx:zt P xb x (nx:Int)) (hy:zh P q 0 1) (n1:A≠xb) (n2:A≠q)=>zfq A xb 2 q 0 (nx:Int) (ny:Int) D hD w P hs hw hA hx.low (by rw[hny1];exact hy) n1 n2 (by rw[Int.natAbs_natCast];exact hnxl) (by rw[Int.natAbs_natCast];exact hnyl) hDl)
 have SF:=af (fun (b0 b1:Nat) (W:World) (h0:Slot W zb 0) (h2:Slot W zb 2) (ha:zh W b0 0 R) (hb:zh W b1 0 D)=>kv zb b0 0 b1 0 R D W h0 h2 ha hb hRl hDl hD0 A B eA eB)
 clear hx hy hz0 hz2 hnx hy0 hny1 hxl hyl hnxl hnyl hP hZ hR hD hPl hZl hRl hDl hD0 eA eB
 go_enter func107,ntmps107
 go_wp2_with fail
 refine ae REG _ _ (by simp) (by simp[Act.eval]) (by simp[Act.eval]) ?_
 intro w1 b0 b1 b8 bd hb1 hb0 hI
 simp only[bi,List.foldl_cons,List.foldl_nil,Act.put,List.setIfInBounds_toArray,List.set_cons_zero,List.set_cons_succ]
 obtain⟨W0,hW0⟩:∃ W0,W0=w1.alloc (.cells #[.bool false,.slice none 0 0] 101):=⟨_,rfl⟩
 have hs:=ji w1 101
 rw[← hW0] at hs
 have hbw:But [] w1 W0:=by rw[hW0];exact (But.refl _ _).alloc _
 have hb2:=hb1.trans' hbw
 have K0:=af (And.intro hs (And.intro hbw (And.intro hb1 (And.intro hb0 hI))))
 have KX:=af ((ae HX).but hb2)
 have KY:=af ((ae HY).but hb2)
 have HW0:=af hW0
 clear hW0 hs hbw hb1 hb0 hb2 hI
 obtain⟨g,hg⟩:∃ g,g=w1.heap.size:=⟨_,rfl⟩
 go_wp2_with fail
 rw[← ae HW0,← hg]
 rw[← hg] at K0
 have HG:=af hg
 clear hg
 refine (ae DX _ (ae KX)).mono ?_
 rintro e w2 ⟨rfl,hw⟩
 obtain rfl:=hw.symm
 clear hw
 go_wp2_with fail
 refine (ae DY _ (ae KY)).mono ?_
 rintro e w2 ⟨q,rfl,hq,hbq,hIq⟩
 have hlg:g<W0.heap.size:=(ae K0).1.lt
 have KX2:=af ((ae KX).but hbq)
 have KQ:=af (And.intro hIq (And.intro ((ae K0).1.but hbq (by simp)) (And.intro ((ae K0).2.1.trans' hbq) (Nat.ne_of_lt (Nat.lt_of_lt_of_le hlg hq)))))
 clear hq hbq hIq hlg
 go_wp2_with fail
 refine (ae MU g q w1 w2 (ae KQ).2.1 (ae KQ).2.2.1 (Nat.le_of_eq (ae HG).symm) (ae KX2) (ae KQ).1 (by
  have h1:=(ae HX).lt
  have h2:=(ae K0).2.2.1.size
  have h3:=ae HG
  omega) (ae KQ).2.2.2).mono ?_
 rintro e w4 ⟨rfl,k1,k2,k3,k4,k5⟩
 have FIN:Hid (Slot w4 zb 0∧Slot w4 zb 2∧zh w4 b0 0 R∧zh w4 g 0 D∧But [] w w4):=by
  obtain⟨hs,hbw,hb1,hb0,hI⟩:=ae K0
  have hb3:=hb1.trans' k1
  exact⟨(ae HZ0).but hb3 (by simp),(ae HZ2).but hb3 (by simp),hI.but k1,k2,hb3⟩
 clear k1 k2 k3 k4 k5 K0 KX KY KX2 KQ HW0 HG MU DX DY REG HX HY HZ0 HZ2
 go_wp2_with fail
 refine (ae SF b0 g _ (ae FIN).1 (ae FIN).2.1 (ae FIN).2.2.1 (ae FIN).2.2.2.1).mono ?_
 rintro e w3 ⟨rfl,k1,k2⟩
 have F3:=af (And.intro ((ae FIN).2.2.2.2.of_nil.trans k1 (fun x hx=>.inl hx)) k2)
 clear k1 k2 FIN SF
 go_wp2
 go_ret
 exact⟨rfl,(ae F3).1,(ae F3).2⟩
theorem refSub_blank (xb yb:Nat) (f g:Rat) (w:World) (hg0:g=0) (hx:za w xb f) (hy:j4 w yb) (lf:qg f 2000000) (lg:qg g 2000000) :
  Calls prog 47 #[.pointer (some ⟨xb,0,none⟩),.pointer (some ⟨yb,0,none⟩)] w fun e w'=>∃ zb,e=.returned (.pointer (some ⟨zb,0,none⟩))∧But [] w w'∧za w' zb (f-g)∧w.heap.size≤zb:=by
 have hfd:0<f.den:=Nat.pos_of_ne_zero f.den_nz
 have hgd:0<g.den:=Nat.pos_of_ne_zero g.den_nz
 have hQ0:(f.den:Int)*(g.den:Int)≠0:=Int.mul_ne_zero (by omega) (by omega)
 obtain⟨e1,e2⟩:=zcm (f.num*(g.den:Int)-g.num*(f.den:Int)) ((f.den:Int)*(g.den:Int)) hQ0 (f-g) (cross_subU f g)
 obtain⟨W0,hW0⟩:∃ W0,W0=w.alloc (.cells #[.bool false,.slice none 0 0,.bool false,.slice none 0 0] 103):=⟨_,rfl⟩
 have hs:=zat w 103
 have hbw:But [] w W0:=by rw[hW0];exact (But.refl _ _).alloc _
 rw[← hW0] at hs
 obtain⟨lf1,lf2⟩:=lf
 obtain⟨lg1,lg2⟩:=lg
 have d1:(wd 4294967296 ((f.den:Nat):Int).natAbs).length≤2000000:=by rw[Int.natAbs_natCast];exact lf2
 have d2:(wd 4294967296 ((g.den:Nat):Int).natAbs).length≤2000000:=by rw[Int.natAbs_natCast];exact lg2
 have p1:=qp f.num (g.den:Int) _ _ lf1 d2
 have p2:=qp g.num (f.den:Int) _ _ lg1 d1
 have p3:=qp (f.den:Int) (g.den:Int) _ _ d1 d2
 have p4:=zef _ _ _ p1 p2
 have MU:=af (ratSubB_any w.heap.size xb yb f.num g.num f.den g.den W0 hs.1 hs.2 (zt.but hx hbw) (hy.but hbw) (by rw[hg0];rfl) (by rw[hg0];rfl) hfd (by omega) (by omega) (by omega) (by omega) _ _ _ _ rfl rfl rfl rfl (by omega) (by omega) (by omega) (by omega) hQ0 (f-g).num ((f-g).den:Int) e1 e2)
 have HW0:=af hW0
 have HBW:=af hbw
 clear hW0 hbw hs e1 e2 hQ0 p1 p2 p3 p4 d1 d2 lf1 lf2 lg1 lg2 hx hy hfd hgd
 go_enter func47,ntmps47
 go_wp2_with fail
 rw[← ae HW0]
 refine (ae MU).mono ?_
 rintro e w1 ⟨rfl,h1,h2⟩
 have FIN:=af (And.intro ((ae HBW).trans h1 (by simp)) h2)
 clear h1 h2 MU
 go_wp2
 go_ret
 exact⟨w.heap.size,rfl,(ae FIN).1,(ae FIN).2,Nat.le_refl _⟩
end Go.Proofs.YtffghofheeleeaaGreatDoor
