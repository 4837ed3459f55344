/- How much lines say amiss, and the best o -/
import Derived.Test.YtffghofheeleeaaGreatDoorKHPd
namespace Go.Proofs.YtffghofheeleeaaGreatDoor
open Go.Proofs.Tryz
open Go.RowKit
set_option maxHeartbeats 16000000
set_option maxRecDepth 100000
def mx1 (ks:List Kd):Rat:=mkR ks (fun k=>k.me) ks.length
def mx2 (ks:List Kd):Rat:=mkR ks (fun k=>k.me*k.me) ks.length-mkR ks (fun k=>k.me) ks.length*mkR ks (fun k=>k.me) ks.length
def mx3 (ks:List Kd) (yr:Int):Rat:=mkR ks (fun k=>k.sp) ks.length/((yr:Int):Rat)
def amR (m1 m2 m3 b o:Rat):Rat:=(b-(((1:Int):Rat)-o)*m1)*(b-(((1:Int):Rat)-o)*m1)+(((1:Int):Rat)-o)*(((1:Int):Rat)-o)*m2+o*o*m3
theorem len_mx (ks:List Kd) (yr:Int) (hn:ks.length≤40) (hy1:1≤yr) (hy2:yr≤120) (lc:∀ k,k<ks.length→Len (ze ks k).ch 1) (lm:∀ k,k<ks.length→Len (ze ks k).me 1) (lp:∀ k,k<ks.length→Len (ze ks k).sp 1):Len (mx1 ks) 500∧Len (mx2 ks) 1501∧Len (mx3 ks yr) 502:=by
 have l1:Len (mkR ks (fun k=>k.me) ks.length) 500:=(zal ks (fun k=>k.me) ks.length 1 lc lm ks.length (Nat.le_refl _)).mono (by omega)
 have l2:Len (mkR ks (fun k=>k.me*k.me) ks.length) 500:=(zal ks (fun k=>k.me*k.me) ks.length 2 lc (fun k hk=>jo (lm k hk) (lm k hk) 2 (by omega)) ks.length (Nat.le_refl _)).mono (by omega)
 have l3:Len (mkR ks (fun k=>k.sp) ks.length) 500:=(zal ks (fun k=>k.sp) ks.length 1 lc lp ks.length (Nat.le_refl _)).mono (by omega)
 refine⟨l1,zed l2 (jo l1 l1 1000 (by omega)) 1501 (by omega),?_⟩
 exact len_div l3 (oo yr (by omega)) (by rw[(bj yr).1];omega) 502 (by omega)
theorem amiss_any (v:Value) (m1 m2 m3 b o:Rat) (s4:Bool) (x4 y4:Int) (p4:Option Addr) (s5:Bool) (x5 y5:Int) (p5:Option Addr) (w:World) (hv:zac m1 m2 m3 w v) (hb:am w (.agg #[.bool s4,.int .u64 x4,.int .u64 y4,.pointer p4]) b) (ho:am w (.agg #[.bool s5,.int .u64 x5,.int .u64 y5,.pointer p5]) o) (l1:Len m1 2000) (l2:Len m2 2000) (l3:Len m3 2000) (lb:Len b 20000) (lo:Len o 10000) :
  Calls prog 57 #[v,.agg #[.bool s4,.int .u64 x4,.int .u64 y4,.pointer p4,.bool s5,.int .u64 x5,.int .u64 y5,.pointer p5]] w fun e w'=>∃ v',e=.returned v'∧am w' v' (amR m1 m2 m3 b o)∧But [] w w':=by
 obtain⟨s1,x1,y1,p1,s2,x2,y2,p2,s3,x3,y3,p3,rfl,h1,h2,h3⟩:=hv
 obtain⟨M,hM⟩:∃ M,M=((1:Int):Rat)-o:=⟨_,rfl⟩
 have lM:Len M 10002:=by rw[hM];exact zed ((oo 1 (by decide)).mono (show 1≤1 by omega)) lo 10002 (by omega)
 have RE:=af (fun W (h:But [] w W)=>zfu _ o W (ho.but h) (lo.mono (by omega)))
 rw[← hM] at RE
 have hval:amR m1 m2 m3 b o=(b-M*m1)*(b-M*m1)+M*M*m2+o*o*m3:=by rw[hM];rfl
 rw[hval]
 have H1:=af h1
 have H2:=af h2
 have H3:=af h3
 have H4:=af hb
 have H5:=af ho
 clear h1 h2 h3 hb ho hM hval
 obtain⟨A0,hA0⟩:∃ A0,A0=w.alloc (.cells #[.bool s1,.int .u64 x1,.int .u64 y1,.pointer p1,.bool s2,.int .u64 x2,.int .u64 y2,.pointer p2,.bool s3,.int .u64 x3,.int .u64 y3,.pointer p3] 112):=⟨_,rfl⟩
 obtain⟨A1,hA1⟩:∃ A1,A1=A0.alloc (.cells #[.bool s4,.int .u64 x4,.int .u64 y4,.pointer p4,.bool s5,.int .u64 x5,.int .u64 y5,.pointer p5] 50):=⟨_,rfl⟩
 obtain⟨W,hW⟩:∃ W,W=A1.alloc (.cells #[.bool false,.int .u64 0,.int .u64 0,.pointer none] 27):=⟨_,rfl⟩
 have sA0:A0.heap.size=w.heap.size+1:=by rw[hA0];simp
 have sA1:A1.heap.size=w.heap.size+1+1:=by rw[hA1,← sA0];simp
 have bA0:But [] w A0:=by rw[hA0];exact (But.refl _ _).alloc _
 have bA1:But [] A0 A1:=by rw[hA1];exact (But.refl _ _).alloc _
 have bW:But [] A1 W:=by rw[hW];exact (But.refl _ _).alloc _
 have y2:dm W w.heap.size [.bool s1,.int .u64 x1,.int .u64 y1,.pointer p1,.bool s2,.int .u64 x2,.int .u64 y2,.pointer p2,.bool s3,.int .u64 x3,.int .u64 y3,.pointer p3]:=by
  have h:=dm.new w [.bool s1,.int .u64 x1,.int .u64 y1,.pointer p1,.bool s2,.int .u64 x2,.int .u64 y2,.pointer p2,.bool s3,.int .u64 x3,.int .u64 y3,.pointer p3] 112
  change dm (w.alloc (.cells #[.bool s1,.int .u64 x1,.int .u64 y1,.pointer p1,.bool s2,.int .u64 x2,.int .u64 y2,.pointer p2,.bool s3,.int .u64 x3,.int .u64 y3,.pointer p3] 112)) _ _ at h
  rw[← hA0] at h
  exact (h.but bA1 (by simp) (by simp)).but bW (by simp) (by simp)
 have y3:dm W (w.heap.size+1) [.bool s4,.int .u64 x4,.int .u64 y4,.pointer p4,.bool s5,.int .u64 x5,.int .u64 y5,.pointer p5]:=by
  have h:dm A1 (w.heap.size+1) [.bool s4,.int .u64 x4,.int .u64 y4,.pointer p4,.bool s5,.int .u64 x5,.int .u64 y5,.pointer p5]:=by
   rw[hA1,← sA0]
   exact dm.new A0 [.bool s4,.int .u64 x4,.int .u64 y4,.pointer p4,.bool s5,.int .u64 x5,.int .u64 y5,.pointer p5] 50
  exact h.but bW (by simp) (by simp)
 have x4':az W (w.heap.size+1+1) 0:=by
  rw[hW,← sA1]
  exact az.new A1 false 0 0 none 0 27 (xk _)
 have Y2:=af y2
 have Y3:=af y3
 have X4:=af x4'
 have BW:=af ((bA0.trans' bA1).trans' bW)
 clear y2 y3 x4' bA0 bA1 bW
 go_enter func57,ntmps57
 go_wp2_with fail
 rw[← hA0,← hA1,← hW]
 refine (ae RE _ (ae BW)).mono ?_
 rintro e w1 ⟨v1,rfl,hf1,hb1⟩
 obtain⟨x6,y6,p6,rfl,-⟩:=id hf1.agg
 generalize decide (M.num<0)=s6 at *
 have bs1:=hb1.trans' ((But.refl _ _).alloc (.cells #[.bool s6,.int .u64 x6,.int .u64 y6,.pointer p6] 27))
 have B1:=af ((ae BW).trans' bs1)
 have Y21:=af ((ae Y2).but bs1 (by simp) (by simp))
 have Y31:=af ((ae Y3).but bs1 (by simp) (by simp))
 have X41:=af ((ae X4).but bs1)
 have Y5:=af (az.new w1 s6 x6 y6 p6 _ 27 hf1)
 clear hb1 hf1 bs1 Y2 Y3 X4 BW RE hA0 hA1 hW sA0 sA1
 go_wp2
 generalize w1.heap.size=g5 at *
 generalize w1.alloc (.cells #[.bool s6,.int .u64 x6,.int .u64 y6,.pointer p6] 27)=V1 at *
 generalize hg4:w.heap.size+1+1=g4 at *
 generalize hg3:w.heap.size+1=g3 at *
 generalize hg2:w.heap.size=g2 at *
 obtain⟨⟨t5,a5,b5,q5,k5,f5⟩,-⟩:=ae Y5
 have lMm:=jo lM l1 12002 (by omega)
 have lD:=zed lb lMm 32003 (by omega)
 have lF:=jo lD lD 64006 (by omega)
 refine amiss_region2 2 _ _ V1 V1.heap.size g2 g3 s4 x4 y4 p4 t5 a5 b5 q5 s1 x1 y1 p1 b M m1 (by simp) g5 (Nat.le_refl _) (by simp[Act.eval]) (by simp[Act.eval]) (by simp[Act.eval]) ⟨(ae Y31).cells 0 _ rfl,(ae Y31).cells 1 _ rfl,(ae Y31).cells 2 _ rfl,(ae Y31).cells 3 _ rfl⟩ k5 ⟨(ae Y21).cells 0 _ rfl,(ae Y21).cells 1 _ rfl,(ae Y21).cells 2 _ rfl,(ae Y21).cells 3 _ rfl⟩ (fun W hb=>lv _ _ _ _ W (f5.but hb) ((ae H1).but ((ae B1).trans' hb)) (lM.mono (by omega)) (l1.mono (by omega))) (fun W hb v hv=>zfr _ _ _ _ W ((ae H4).but ((ae B1).trans' hb)) hv (lb.mono (by omega)) (lMm.mono (by omega))) (fun W hb v hv=>zbr _ _ W hv (lD.mono (by omega))) ?_
 intro w2 bn v5 v6 s7 x7 y7 p7 hb2 hBn hp2 hz2 hf2
 simp only[bi,List.foldl_cons,List.foldl_nil,Act.put,List.setIfInBounds_toArray,List.set_cons_zero,List.set_cons_succ]
 have hP2:=aw w2 bn s7 x7 y7 p7
 have x6':az (jk w2 bn s7 x7 y7 p7) bn ((b-M*m1)*(b-M*m1)):=az.put (f:=0) ⟨⟨false,0,0,none,hp2,xk _⟩,hz2⟩ hf2
 have hbo:∀ g ∈ [bn],∃ s,w2.cell? ⟨g,0,none⟩=some (.bool s):=fun g hg=>by simp at hg;subst hg;exact⟨_,hp2.1⟩
 have lV1:g2<V1.heap.size∧g3<V1.heap.size∧g4<V1.heap.size∧g5<V1.heap.size:=⟨(ae Y21).lt (by simp),(ae Y31).lt (by simp),(ae X41).lt,(ae Y5).lt⟩
 have B2:=af (((ae B1).trans' hb2).trans hP2 (fun x hx=>by simp at hx;subst hx;exact .inr (by have:=(ae B1).size;omega)))
 have Y22:=af (((ae Y21).but hb2 (by simp) (by simp)).but hP2 (by simp;omega) (by simp))
 have Y32:=af (((ae Y31).but hb2 (by simp) (by simp)).but hP2 (by simp;omega) (by simp))
 have X42:=af (((ae X41).but hb2).beside hP2 (by simp;omega) hbo)
 have Y52:=af (((ae Y5).but hb2).beside hP2 (by simp;omega) hbo)
 have X62:=af x6'
 generalize jk w2 bn s7 x7 y7 p7=V2 at *
 clear hP2 x6' hbo hb2 hBn hp2 hz2 hf2 Y21 Y31 X41 Y5 B1 k5 f5 lV1
 go_wp2
 obtain⟨⟨t4,a4,b4,q4,k4,-⟩,z4⟩:=ae X42
 obtain⟨⟨t5,a5,b5,q5,k5,f5⟩,-⟩:=ae Y52
 obtain⟨⟨t6,a6,b6,q6,k6,f6⟩,-⟩:=ae X62
 have lMM:=jo lM lM 20004 (by omega)
 have lMMb:=jo lMM l2 22004 (by omega)
 have lA:=zee lF lMMb 86011 (by omega)
 have loo:=jo lo lo 20000 (by omega)
 have lood:=jo loo l3 22000 (by omega)
 refine amiss_region3 3 _ _ V2 g2 g3 t6 a6 b6 q6 t5 a5 b5 q5 s2 x2 y2 p2 s5 x5 y5 p5 s3 x3 y3 p3 _ M m2 o m3 g4 g5 bn (by simp) (by simp[Act.eval]) k4 z4 (by simp[Act.eval]) (by simp[Act.eval]) (by simp[Act.eval]) (by simp[Act.eval]) k6 k5 ⟨(ae Y22).cells 4 _ rfl,(ae Y22).cells 5 _ rfl,(ae Y22).cells 6 _ rfl,(ae Y22).cells 7 _ rfl⟩ ⟨(ae Y32).cells 4 _ rfl,(ae Y32).cells 5 _ rfl,(ae Y32).cells 6 _ rfl,(ae Y32).cells 7 _ rfl⟩ ⟨(ae Y22).cells 8 _ rfl,(ae Y22).cells 9 _ rfl,(ae Y22).cells 10 _ rfl,(ae Y22).cells 11 _ rfl⟩ (fun W hb=>zbr _ _ W (f5.but hb) (lM.mono (by omega))) (fun W hb v hv=>lv _ _ _ _ W hv ((ae H2).but ((ae B2).trans' hb)) (lMM.mono (by omega)) (l2.mono (by omega))) (fun W hb v hv=>zcv _ _ _ _ W (f6.but hb) hv (lF.mono (by omega)) (lMMb.mono (by omega))) (fun W hb=>zbr _ _ W ((ae H5).but ((ae B2).trans' hb)) (lo.mono (by omega))) (fun W hb v hv=>lv _ _ _ _ W hv ((ae H3).but ((ae B2).trans' hb)) (loo.mono (by omega)) (l3.mono (by omega))) (fun W hb v u hv hu=>zcv _ _ _ _ W hv hu (lA.mono (by omega)) (lood.mono (by omega))) ?_
 intro w3 u2 u5 u6 u9 u12 s8 x8 y8 p8 hb3 hf3
 simp only[bi,List.foldl_cons,List.foldl_nil,Act.put,List.setIfInBounds_toArray,List.set_cons_zero,List.set_cons_succ]
 have hP:=aw w3 g4 s8 x8 y8 p8
 obtain⟨m0,m1',m2',m3'⟩:=wu w3 g4 s8 x8 y8 p8 (k4.but hb3 (by simp))
 have hF:But [] w (jk w3 g4 s8 x8 y8 p8):=((ae B2).trans' hb3).trans hP (fun x hx=>by simp at hx;subst hx;exact .inr (by omega))
 have hff:=hf3.over (k4.but hb3 (by simp)).1 hP
 generalize jk w3 g4 s8 x8 y8 p8=F at *
 clear hP hf3 hb3 k4 z4 k5 k6 f5 f6
 go_wp2
 exact bodyPost_ret (v:=.agg #[.bool s8,.int .u64 x8,.int .u64 y8,.pointer p8]) (by simp[results,results57,go_sem,m0,m1',m2',m3']) rfl ⟨_,rfl,hff,hF⟩
theorem amissTop_ok (q:Option Addr) (n cap:Nat) (ks:List Kd) (yr:Int) (w:World) (hv:kz w (.slice q n cap) ks) (hN:n=ks.length) (hn:n≤40) (hy1:1≤yr) (hy2:yr≤120) (lc:∀ k,k<n→Len (ze ks k).ch 1) (lm:∀ k,k<n→Len (ze ks k).me 1) (lp:∀ k,k<n→Len (ze ks k).sp 1) (s4:Bool) (x4 y4:Int) (p4:Option Addr) (s5:Bool) (x5 y5:Int) (p5:Option Addr) (b o:Rat) (hb:am w (.agg #[.bool s4,.int .u64 x4,.int .u64 y4,.pointer p4]) b) (ho:am w (.agg #[.bool s5,.int .u64 x5,.int .u64 y5,.pointer p5]) o) (lb:Len b 20000) (lo:Len o 10000) (hk:kndE ks=0) :
  Calls prog 15 #[.slice q n cap,.int .i64 yr,.agg #[.bool s4,.int .u64 x4,.int .u64 y4,.pointer p4,.bool s5,.int .u64 x5,.int .u64 y5,.pointer p5]] w fun e w'=>∃ s x y p,e=.returned (.tuple #[.agg #[.bool s,.int .u64 x,.int .u64 y,.pointer p],.nilIface])∧am w' (.agg #[.bool s,.int .u64 x,.int .u64 y,.pointer p]) (amR (mx1 ks) (mx2 ks) (mx3 ks yr) b o)∧But [] w w':=by
 obtain⟨l1,l2,l3⟩:=len_mx ks yr (by omega) hy1 hy2 (by rw[← hN];exact lc) (by rw[← hN];exact lm) (by rw[← hN];exact lp)
 have CK:=af (fun W (h:But [] w W)=>zfv q n cap ks yr W (hv.but h) hN hn hy1 hy2 lc lm lp)
 rw[hk] at CK
 have MI:Hid (∀ W,But [] w W→Calls prog 53 #[.slice q n cap,.int .i64 yr] W fun e w'=>∃ v,e=.returned v∧zac (mx1 ks) (mx2 ks) (mx3 ks yr) w' v∧But [] W w'):=fun W h=>by
  have:=mixOf_any q n cap ks yr W (hv.but h) hN hn hy1 hy2 lc lm lp
  rw[hN] at this
  rw[hN]
  exact this
 have AM:=af (fun W v (h:But [] w W) (hv:zac (mx1 ks) (mx2 ks) (mx3 ks yr) W v)=>amiss_any v _ _ _ b o s4 x4 y4 p4 s5 x5 y5 p5 W hv (hb.but h) (ho.but h) (l1.mono (by omega)) (l2.mono (by omega)) (l3.mono (by omega)) lb lo)
 generalize amR (mx1 ks) (mx2 ks) (mx3 ks yr) b o=R at *
 obtain⟨A0,hA0⟩:∃ A0,A0=w.alloc (.cells #[.bool s4,.int .u64 x4,.int .u64 y4,.pointer p4,.bool s5,.int .u64 x5,.int .u64 y5,.pointer p5] 50):=⟨_,rfl⟩
 obtain⟨W,hW⟩:∃ W,W=A0.alloc (.cells #[.bool false,.int .u64 0,.int .u64 0,.pointer none] 27):=⟨_,rfl⟩
 have sA0:A0.heap.size=w.heap.size+1:=by rw[hA0];simp
 have bA0:But [] w A0:=by rw[hA0];exact (But.refl _ _).alloc _
 have bW:But [] A0 W:=by rw[hW];exact (But.refl _ _).alloc _
 have y5:dm W w.heap.size [.bool s4,.int .u64 x4,.int .u64 y4,.pointer p4,.bool s5,.int .u64 x5,.int .u64 y5,.pointer p5]:=by
  have h:=dm.new w [.bool s4,.int .u64 x4,.int .u64 y4,.pointer p4,.bool s5,.int .u64 x5,.int .u64 y5,.pointer p5] 50
  change dm (w.alloc (.cells #[.bool s4,.int .u64 x4,.int .u64 y4,.pointer p4,.bool s5,.int .u64 x5,.int .u64 y5,.pointer p5] 50)) _ _ at h
  rw[← hA0] at h
  exact h.but bW (by simp) (by simp)
 have x6:az W (w.heap.size+1) 0:=by
  rw[hW,← sA0]
  exact az.new A0 false 0 0 none 0 27 (xk _)
 have Y5:=af y5
 have X6:=af x6
 have BW:=af (bA0.trans' bW)
 clear y5 x6 bA0 bW hv hb ho lb lo lc lm lp hk l1 l2 l3 hN
 go_enter func15,ntmps15
 go_wp2_with fail
 rw[← hA0,← hW]
 refine (ae CK _ (ae BW)).mono ?_
 rintro e w1 ⟨rfl,hb1⟩
 have B1:=af ((ae BW).trans' hb1)
 have Y51:=af ((ae Y5).but hb1 (by simp) (by simp))
 have X61:=af ((ae X6).but hb1)
 clear hb1 BW Y5 X6 CK hA0 hW sA0
 rw[show errV 0=.nilIface from rfl]
 go_wp2
 generalize hg6:w.heap.size+1=g6 at *
 generalize hg5:w.heap.size=g5 at *
 obtain⟨⟨t6,a6,b6,q6,k6,-⟩,z6⟩:=ae X61
 refine amissTop_region 4 _ _ w1 yr (.slice q n cap) s4 x4 y4 p4 s5 x5 y5 p5 (mx1 ks) (mx2 ks) (mx3 ks yr) R g6 g5 (by simp) (by simp[Act.eval]) k6 z6 (by simp[Act.eval]) (by simp[Act.eval]) (by simp[Act.eval]) (ae Y51) (fun W hb=>ae MI W ((ae B1).trans' hb)) (fun W hb v hv=>ae AM W v ((ae B1).trans' hb) hv) ?_
 intro w2 v2 s8 x8 y8 p8 hb2 hf2
 simp only[bi,List.foldl_cons,List.foldl_nil,Act.put,List.setIfInBounds_toArray,List.set_cons_zero,List.set_cons_succ]
 have hP:=aw w2 g6 s8 x8 y8 p8
 obtain⟨m0,m1,m2,m3⟩:=wu w2 g6 s8 x8 y8 p8 (k6.but hb2 (by simp))
 have hF:But [] w (jk w2 g6 s8 x8 y8 p8):=((ae B1).trans' hb2).trans hP (fun x hx=>by simp at hx;subst hx;exact .inr (by omega))
 have hff:=hf2.over (k6.but hb2 (by simp)).1 hP
 generalize jk w2 g6 s8 x8 y8 p8=F at *
 clear hP hf2 hb2 k6 z6
 go_wp2
 exact bodyPost_ret (v:=.tuple #[.agg #[.bool s8,.int .u64 x8,.int .u64 y8,.pointer p8],.nilIface]) (by simp[results,results15,go_sem,m0,m1,m2,m3]) rfl ⟨s8,x8,y8,p8,rfl,hff,hF⟩
def ownK (ks:List Kd) (yr:Int):Rat:=ownR (mx2 ks) (mx3 ks yr)
theorem len_own {b d:Rat} {m n:Nat} (lb:Len b m) (ld:Len d n) (hne:b.num≠0→(b+d).num≠0) (k:Nat) (hk:2*m+n+1≤k):Len (ownR b d) k:=by
 unfold ownR
 by_cases h:b.num=0
 ·rw[if_pos h];exact len_zero _ (by omega)
 ·rw[if_neg h]
  exact len_div lb (zee lb ld (m+n+1) (by omega)) (hne h) k (by omega)
theorem linear_ok (q:Option Addr) (n cap:Nat) (ks:List Kd) (yr:Int) (w:World) (hv:kz w (.slice q n cap) ks) (hN:n=ks.length) (hn:n≤40) (hy1:1≤yr) (hy2:yr≤120) (lc:∀ k,k<n→Len (ze ks k).ch 1) (lm:∀ k,k<n→Len (ze ks k).me 1) (lp:∀ k,k<n→Len (ze ks k).sp 1) (hne:(mx2 ks).num≠0→(mx2 ks+mx3 ks yr).num≠0) (hk:kndE ks=0) :
  Calls prog 14 #[.slice q n cap,.int .i64 yr] w fun e w'=>∃ v,e=.returned (.tuple #[v,.nilIface])∧zep ((((1:Int):Rat)-ownK ks yr)*mx1 ks) (ownK ks yr) w' v∧But [] w w':=by
 obtain⟨l1,l2,l3⟩:=len_mx ks yr (by omega) hy1 hy2 (by rw[← hN];exact lc) (by rw[← hN];exact lm) (by rw[← hN];exact lp)
 have lO:Len (ownK ks yr) 4000:=len_own l2 l3 hne 4000 (by omega)
 have CK:=af (fun W (h:But [] w W)=>zfv q n cap ks yr W (hv.but h) hN hn hy1 hy2 lc lm lp)
 rw[hk] at CK
 have MI:Hid (∀ W,But [] w W→Calls prog 53 #[.slice q n cap,.int .i64 yr] W fun e w'=>∃ v,e=.returned v∧zac (mx1 ks) (mx2 ks) (mx3 ks yr) w' v∧But [] W w'):=fun W h=>by
  have:=mixOf_any q n cap ks yr W (hv.but h) hN hn hy1 hy2 lc lm lp
  rw[hN] at this
  rw[hN]
  exact this
 have OW:Hid (∀ W va vb,am W va (mx2 ks)→am W vb (mx3 ks yr)→Calls prog 54 #[va,vb] W fun e w'=>∃ v,e=.returned v∧am w' v (ownK ks yr)∧But [] W w'):=fun W va vb h1 h2=>ownPart_any va vb _ _ W h1 h2 (l2.mono (by omega)) (l3.mono (by omega)) hne
 generalize ownK ks yr=o at *
 generalize mx1 ks=m1 at *
 generalize mx2 ks=m2 at *
 generalize mx3 ks yr=m3 at *
 have x4:dm (w.alloc (.cells #[.bool false,.int .u64 0,.int .u64 0,.pointer none,.bool false,.int .u64 0,.int .u64 0,.pointer none] 50)) w.heap.size [.bool false,.int .u64 0,.int .u64 0,.pointer none,.bool false,.int .u64 0,.int .u64 0,.pointer none]:=dm.new w _ _
 have bA:But [] w (w.alloc (.cells #[.bool false,.int .u64 0,.int .u64 0,.pointer none,.bool false,.int .u64 0,.int .u64 0,.pointer none] 50)):=(But.refl _ _).alloc _
 have X4:=af x4
 have BA:=af bA
 have Q2:Hid (w.heap.size≤w.heap.size):=Nat.le_refl _
 clear x4 bA hv lc lm lp hN hne hk
 go_enter func14,ntmps14
 go_wp2_with fail
 refine (ae CK _ (ae BA)).mono ?_
 rintro e w1 ⟨rfl,hb1⟩
 have B1:=af ((ae BA).trans' hb1)
 have X41:=af ((ae X4).but hb1 (by simp) (by simp))
 clear hb1 X4 BA CK
 rw[show errV 0=.nilIface from rfl]
 go_wp2_with fail
 refine (ae MI _ (ae B1)).mono ?_
 rintro e w2 ⟨v2,rfl,⟨s1,x1,y1,p1,s2,x2,y2,p2,s3,x3,y3,p3,rfl,h1,h2,h3⟩,hb2⟩
 have bA2:But [] w2 (w2.alloc (.cells #[.bool s1,.int .u64 x1,.int .u64 y1,.pointer p1,.bool s2,.int .u64 x2,.int .u64 y2,.pointer p2,.bool s3,.int .u64 x3,.int .u64 y3,.pointer p3] 112)):=(But.refl _ _).alloc _
 have bs2:=hb2.trans' bA2
 have B2:=af ((ae B1).trans' bs2)
 have X42:=af ((ae X41).but bs2 (by simp) (by simp))
 have Y7:Hid (dm (w2.alloc (.cells #[.bool s1,.int .u64 x1,.int .u64 y1,.pointer p1,.bool s2,.int .u64 x2,.int .u64 y2,.pointer p2,.bool s3,.int .u64 x3,.int .u64 y3,.pointer p3] 112)) w2.heap.size [.bool s1,.int .u64 x1,.int .u64 y1,.pointer p1,.bool s2,.int .u64 x2,.int .u64 y2,.pointer p2,.bool s3,.int .u64 x3,.int .u64 y3,.pointer p3]):=dm.new w2 _ _
 have H1:=af (h1.but bA2)
 have OW2:=af (ae OW _ _ _ (h2.but bA2) (h3.but bA2))
 clear hb2 bs2 bA2 h1 h2 h3 X41 B1 MI OW
 go_wp2_with fail
 generalize w2.heap.size=g7 at *
 generalize w2.alloc (.cells #[.bool s1,.int .u64 x1,.int .u64 y1,.pointer p1,.bool s2,.int .u64 x2,.int .u64 y2,.pointer p2,.bool s3,.int .u64 x3,.int .u64 y3,.pointer p3] 112)=V2 at *
 refine (ae OW2).mono ?_
 rintro e w3 ⟨v3,rfl,hf3,hb3⟩
 obtain⟨x5,y5,p5,rfl,-⟩:=id hf3.agg
 generalize decide (o.num<0)=s5 at *
 have bA3:But [] w3 (w3.alloc (.cells #[.bool s5,.int .u64 x5,.int .u64 y5,.pointer p5] 27)):=(But.refl _ _).alloc _
 have bs3:=hb3.trans' bA3
 have B3:=af ((ae B2).trans' bs3)
 have X43:=af ((ae X42).but bs3 (by simp) (by simp))
 have Y73:=af ((ae Y7).but bs3 (by simp) (by simp))
 have H13:=af ((ae H1).but bs3)
 have Y8:=af (az.new w3 s5 x5 y5 p5 _ 27 hf3)
 clear hb3 hf3 bA3 bs3 X42 B2 Y7 H1 OW2
 go_wp2
 generalize w3.heap.size=g8 at *
 generalize w3.alloc (.cells #[.bool s5,.int .u64 x5,.int .u64 y5,.pointer p5] 27)=V3 at *
 generalize hg4:w.heap.size=g4 at *
 obtain⟨⟨t8,a8,b8,q8,k8,f8⟩,-⟩:=ae Y8
 have lR:=zed ((oo 1 (by decide)).mono (show 1≤1 by omega)) lO 4002 (by omega)
 refine linear_region 6 _ _ V3 g7 t8 a8 b8 q8 s1 x1 y1 p1 o m1 g4 g8 (by simp) (by simp[Act.eval]) (ae X43) rfl (by simp[Act.eval]) (by simp[Act.eval]) k8 ⟨(ae Y73).cells 0 _ rfl,(ae Y73).cells 1 _ rfl,(ae Y73).cells 2 _ rfl,(ae Y73).cells 3 _ rfl⟩ f8 (fun W hb=>zfu _ o W (f8.but hb) (lO.mono (by omega))) (fun W hb v hv=>lv _ _ _ _ W hv ((ae H13).but hb) (lR.mono (by omega)) (l1.mono (by omega))) ?_
 intro w4 v1' v4 v5 e1 e2 e3 e4 e5 e6 e7 e8 hb4 h1 h2
 simp only[bi,List.foldl_cons,List.foldl_nil,Act.put,List.setIfInBounds_toArray,List.set_cons_zero,List.set_cons_succ]
 have X44:=(ae X43).but hb4 (by simp) (by simp)
 have hS:=bk w4 g4 [.bool e1,.int .u64 e2,.int .u64 e3,.pointer e4,.bool e5,.int .u64 e6,.int .u64 e7,.pointer e8] 0
 have P:=X44.put (us:=[.bool e1,.int .u64 e2,.int .u64 e3,.pointer e4,.bool e5,.int .u64 e6,.int .u64 e7,.pointer e8]) rfl
 have m0':=P.cells 0 _ rfl
 have m1':=P.cells 1 _ rfl
 have m2':=P.cells 2 _ rfl
 have m3':=P.cells 3 _ rfl
 have m4':=P.cells 4 _ rfl
 have m5':=P.cells 5 _ rfl
 have m6':=P.cells 6 _ rfl
 have m7':=P.cells 7 _ rfl
 have c0:=X44.cells 0 _ rfl
 have hF:But [] w (w4.setCells g4 0 [.bool e1,.int .u64 e2,.int .u64 e3,.pointer e4,.bool e5,.int .u64 e6,.int .u64 e7,.pointer e8]):=((ae B3).trans' hb4).trans hS (fun x hx=>by simp at hx;subst hx;exact .inr (by omega))
 have h1':=h1.over c0 hS
 have h2':=h2.over c0 hS
 generalize w4.setCells g4 0 [.bool e1,.int .u64 e2,.int .u64 e3,.pointer e4,.bool e5,.int .u64 e6,.int .u64 e7,.pointer e8]=F at *
 clear P X44 hS c0 h1 h2 hb4 k8 f8
 go_wp2
 exact bodyPost_ret (v:=.tuple #[.agg #[.bool e1,.int .u64 e2,.int .u64 e3,.pointer e4,.bool e5,.int .u64 e6,.int .u64 e7,.pointer e8],.nilIface]) (by simp[results,results14,go_sem,m0',m1',m2',m3',m4',m5',m6',m7']) rfl ⟨_,rfl,⟨e1,e2,e3,e4,e5,e6,e7,e8,rfl,h1',h2'⟩,hF⟩
def amS (ks:List Kd) (y b o:Rat):Nat→Rat:=sgR (fun j=>(ze ks j).ch*((o*o)*(ze ks j).sp/y+((b+o*(ze ks j).me)-(ze ks j).me)*((b+o*(ze ks j).me)-(ze ks j).me)))
theorem amS_is (ks:List Kd) (y b o:Rat):∀ n,amS ks y b o n=o*o*(mkR ks (fun k=>k.sp) n*y⁻¹)+b*b*mkR ks (fun _=>((1:Int):Rat)) n+2*b*(o-1)*mkR ks (fun k=>k.me) n+(o-1)*(o-1)*mkR ks (fun k=>k.me*k.me) n
 | 0=>by
  show (0:Rat)=o*o*(0*y⁻¹)+b*b*0+2*b*(o-1)*0+(o-1)*(o-1)*0
  grind
 | n+1=>by
  have ih:=amS_is ks y b o n
  show amS ks y b o n+(ze ks n).ch*((o*o)*(ze ks n).sp/y+((b+o*(ze ks n).me)-(ze ks n).me)*((b+o*(ze ks n).me)-(ze ks n).me))=o*o*((mkR ks (fun k=>k.sp) n+(ze ks n).ch*(ze ks n).sp)*y⁻¹)+b*b*(mkR ks (fun _=>((1:Int):Rat)) n+(ze ks n).ch*1)+2*b*(o-1)*(mkR ks (fun k=>k.me) n+(ze ks n).ch*(ze ks n).me)+(o-1)*(o-1)*(mkR ks (fun k=>k.me*k.me) n+(ze ks n).ch*((ze ks n).me*(ze ks n).me))
  rw[ih,Rat.div_def]
  generalize y⁻¹=i
  generalize mkR ks (fun k=>k.sp) n=a1
  generalize mkR ks (fun _=>((1:Int):Rat)) n=a2
  generalize mkR ks (fun k=>k.me) n=a3
  generalize mkR ks (fun k=>k.me*k.me) n=a4
  generalize (ze ks n).ch=c
  generalize (ze ks n).me=m
  generalize (ze ks n).sp=s
  grind
theorem am_same (ks:List Kd) (yr:Int) (b o:Rat) (h1:mkR ks (fun _=>((1:Int):Rat)) ks.length=((1:Int):Rat)):amS ks ((yr:Int):Rat) b o ks.length=amR (mx1 ks) (mx2 ks) (mx3 ks yr) b o:=by
 rw[amS_is,h1]
 unfold amR mx1 mx2 mx3
 rw[Rat.div_def]
 have e1:((1:Int):Rat)=1:=rfl
 rw[e1]
 generalize (((yr:Int):Rat))⁻¹=i
 generalize mkR ks (fun k=>k.sp) ks.length=a1
 generalize mkR ks (fun k=>k.me) ks.length=a3
 generalize mkR ks (fun k=>k.me*k.me) ks.length=a4
 grind
def dbS (ks:List Kd) (y:Rat):Nat→Rat:=sgR (fun j=>(ze ks j).ch*(ze ks j).sp/y)
theorem dbS_is (ks:List Kd) (y:Rat):∀ n,dbS ks y n=mkR ks (fun k=>k.sp) n/y
 | 0=>by
  show (0:Rat)=0/y
  rw[Rat.div_def,Rat.zero_mul]
 | n+1=>by
  have ih:=dbS_is ks y n
  show dbS ks y n+(ze ks n).ch*(ze ks n).sp/y=(mkR ks (fun k=>k.sp) n+(ze ks n).ch*(ze ks n).sp)/y
  rw[ih,Rat.div_def,Rat.div_def,Rat.div_def]
  generalize y⁻¹=i
  grind
theorem own_same (ks:List Kd) (yr:Int) (hne:(mx2 ks).num≠0→(mx2 ks+mx3 ks yr).num≠0):qR (mkR ks (fun k=>k.me*k.me) ks.length-mkR ks (fun k=>k.me) ks.length*mkR ks (fun k=>k.me) ks.length) ((mkR ks (fun k=>k.me*k.me) ks.length+dbS ks ((yr:Int):Rat) ks.length)-mkR ks (fun k=>k.me) ks.length*mkR ks (fun k=>k.me) ks.length)=ownK ks yr:=by
 rw[dbS_is]
 have e:(mkR ks (fun k=>k.me*k.me) ks.length+mkR ks (fun k=>k.sp) ks.length/((yr:Int):Rat))-mkR ks (fun k=>k.me) ks.length*mkR ks (fun k=>k.me) ks.length=mx2 ks+mx3 ks yr:=by unfold mx2 mx3;grind
 rw[e]
 show qR (mx2 ks) (mx2 ks+mx3 ks yr)=ownR (mx2 ks) (mx3 ks yr)
 unfold qR ownR
 by_cases h0:(mx2 ks).num=0
 ·have hz:mx2 ks=0:=Rat.num_eq_zero.1 h0
  rw[if_pos h0]
  split
  ·rfl
  ·rw[hz,Rat.div_def,Rat.zero_mul]
 ·rw[if_neg h0,if_neg (hne h0)]
theorem one_ok (v:Value) (r:Rat) (b:Nat) (w:World) (hv:am w v r) (hb:za w b r) (lr:Len r 1000000) (htab:Lib.TabIs prog w "internal/strconv.uint64pow10" .u64 Lib.pow10Tab) :
  Calls prog 19 #[v,.nilIface,.pointer (some ⟨b,0,none⟩),.int .i64 0] w fun e w'=>e=.returned (.bool true)∧But [] w w':=by
 obtain⟨t,ht⟩:∃ t,t=zei (decide (r.num<0)) r.num.natAbs r.den:=⟨_,rfl⟩
 have T1:=af (fun W (h:But [] w W)=>zej v r W (hv.but h) (lr.mono (by omega)) (TabIs.but htab h) t ht)
 have T2:=af (fun W (h:But [] w W)=>refText_any b r W (hb.but h) ((z8 lr).mono (by omega)) t (ht.trans (txt_same r)))
 obtain⟨x,y,p,rfl,-⟩:=id hv.agg
 clear hv hb lr htab ht
 generalize decide (r.num<0)=s at *
 obtain⟨V,hV⟩:∃ V,V=w.alloc (.cells #[.bool s,.int .u64 x,.int .u64 y,.pointer p] 27):=⟨_,rfl⟩
 obtain⟨g,hg⟩:∃ g,g=w.heap.size:=⟨_,rfl⟩
 have c0:V.cell? ⟨g,0,none⟩=some (.bool s):=by rw[hV,hg];simp
 have c1:V.cell? ⟨g,1,none⟩=some (.int .u64 x):=by rw[hV,hg];simp
 have c2:V.cell? ⟨g,2,none⟩=some (.int .u64 y):=by rw[hV,hg];simp
 have c3:V.cell? ⟨g,3,none⟩=some (.pointer p):=by rw[hV,hg];simp
 have bV:But [] w V:=by rw[hV];exact (But.refl _ _).alloc _
 have BV:=af bV
 have HV:=af hV
 clear bV hV
 go_enter func19,ntmps19
 go_wp2_with fail
 rw[← ae HV]
 try rw[← hg]
 clear hg HV
 refine (ae T1 V (ae BV)).mono ?_
 rintro e w1 ⟨rfl,B1⟩
 have K1:=af ((ae BV).trans' B1)
 clear B1 c0 c1 c2 c3
 go_wp2_with fail
 refine (ae T2 w1 (ae K1)).mono ?_
 rintro e w2 ⟨rfl,B2⟩
 have K2:=af ((ae K1).trans' B2)
 clear B2
 go_wp2
 go_ret
 exact⟨rfl,ae K2⟩
theorem one_err (n:Int) (v b:Value) (w:World) (hv:am w v 0) (h0:(n != 0)=true) (htab:Lib.TabIs prog w "internal/strconv.uint64pow10" .u64 Lib.pow10Tab) (hg:w.cell? ⟨0,0,none⟩=some (.iface 183 (.agg #[.pointer (some ⟨6,29,none⟩)]))) :
  Calls prog 19 #[v,.iface 33 (.int .i64 n),b,.int .i64 n] w fun e w'=>e=.returned (.bool true)∧But [] w w':=by
 have TZ:=af (fun W (h:But [] w W)=>zej v 0 W (hv.but h) len_zeroX (TabIs.but htab h) ⟨#[48]⟩ txt_zero.symm)
 have TE:=af (fun W (h:But [] w W)=>tell_errno n W (h.ag hg (by simp)))
 obtain⟨x,y,p,rfl,-⟩:=id hv.agg
 clear htab hg hv
 generalize decide ((0:Rat).num<0)=s at *
 obtain⟨V,hV⟩:∃ V,V=w.alloc (.cells #[.bool s,.int .u64 x,.int .u64 y,.pointer p] 27):=⟨_,rfl⟩
 obtain⟨g,hg⟩:∃ g,g=w.heap.size:=⟨_,rfl⟩
 have c0:V.cell? ⟨g,0,none⟩=some (.bool s):=by rw[hV,hg];simp
 have c1:V.cell? ⟨g,1,none⟩=some (.int .u64 x):=by rw[hV,hg];simp
 have c2:V.cell? ⟨g,2,none⟩=some (.int .u64 y):=by rw[hV,hg];simp
 have c3:V.cell? ⟨g,3,none⟩=some (.pointer p):=by rw[hV,hg];simp
 have bV:But [] w V:=by rw[hV];exact (But.refl _ _).alloc _
 have BV:=af bV
 have HV:=af hV
 clear bV hV
 go_enter func19,ntmps19
 go_wp2_with fail
 rw[← ae HV]
 try rw[← hg]
 clear hg HV
 refine (ae TE V (ae BV)).mono ?_
 rintro e w2 ⟨rfl,B3⟩
 replace c0:=B3.ag c0 (by simp)
 replace c1:=B3.ag c1 (by simp)
 replace c2:=B3.ag c2 (by simp)
 replace c3:=B3.ag c3 (by simp)
 have B4:=af ((ae BV).trans' B3)
 clear B3
 go_wp2_with fail
 refine (ae TZ _ (ae B4)).mono ?_
 rintro e w3 ⟨rfl,B5⟩
 have B6:=af ((ae B4).trans' B5)
 clear B5
 go_wp2
 go_ret
 exact⟨rfl,ae B6⟩
theorem inv_nn {x:Rat} (h:0≤x):0≤x⁻¹:=by
 by_cases e:x=0
 ·rw[e,Rat.inv_zero];exact Rat.le_refl
 ·exact Rat.le_of_lt (Rat.inv_pos.2 (Rat.lt_of_le_of_ne h (Ne.symm e)))
theorem zgw {x:Rat} (h:¬ x.num<0):0≤x:=Rat.num_nonneg.1 (by omega)
theorem own_facts (b d:Rat) (hb:0≤b) (hd:0≤d):(b=0→ownR b d=0)∧(b≠0→ownR b d*(b+d)=b)∧(b.num≠0→(b+d).num≠0):=by
 have hn:b≠0→b+d≠0:=fun h e=>h (by grind)
 refine⟨fun h=>by unfold ownR;rw[h];rfl,fun h=>?_,fun h e=>?_⟩
 ·unfold ownR
  rw[if_neg (fun e=>h (Rat.num_eq_zero.1 e)),Rat.div_mul_cancel (hn h)]
 ·exact hn (fun e2=>h (by rw[e2];rfl)) (Rat.num_eq_zero.1 e)
theorem kinds_facts (ks:List Kd) (hk:kndE ks=0):(∀ j,j<ks.length→0≤(ze ks j).ch)∧(∀ j,j<ks.length→0≤(ze ks j).sp)∧sgR (fun j=>(ze ks j).ch) ks.length=1:=by
 unfold kndE at hk
 split at hk
 ·simp at hk
 split at hk
 ·simp at hk
 rename_i h2
 split at hk
 ·rename_i h3
  have h4:∀ k ∈ ks,¬ k.ch.num<0∧¬ k.sp.num<0:=fun k hm=>by
   simp only[List.any_eq_true,not_exists,not_and,Bool.or_eq_true,decide_eq_true_eq,not_or] at h2
   exact h2 k hm
  refine⟨fun j hj=>zgw (h4 _ (kd_mem hj)).1,fun j hj=>zgw (h4 _ (kd_mem hj)).2,?_⟩
  have h5:mkR ks (fun _=>((1:Int):Rat)) ks.length=sgR (fun j=>(ze ks j).ch) ks.length:=zge _ _ _ (fun k _=>by
   show (ze ks k).ch*((1:Int):Rat)=_
   rw[show ((1:Int):Rat)=1 from rfl,Rat.mul_one])
  rw[← h5,h3];rfl
 ·simp at hk
theorem mix_facts (ks:List Kd) (yr:Int) (hk:kndE ks=0) (hy:1≤yr):0≤mx2 ks∧0≤mx3 ks yr:=by
 obtain⟨h1,h2,h3⟩:=kinds_facts ks hk
 refine⟨var_nonneg (fun j=>(ze ks j).ch) (fun j=>(ze ks j).me) ks.length h1 h3,?_⟩
 have h4:0≤mkR ks (fun k=>k.sp) ks.length:=sgR_nonneg _ _ (fun j hj=>Rat.mul_nonneg (h1 j hj) (h2 j hj))
 unfold mx3
 rw[Rat.div_def]
 exact Rat.mul_nonneg h4 (inv_nn (by
  have:((0:Int):Rat)≤((yr:Int):Rat):=Rat.intCast_le_intCast.2 (by omega)
  exact this))
theorem one_blank (v:Value) (b:Nat) (w:World) (hv:am w v 0) (hb:j4 w b) (htab:Lib.TabIs prog w "internal/strconv.uint64pow10" .u64 Lib.pow10Tab) :
  Calls prog 19 #[v,.nilIface,.pointer (some ⟨b,0,none⟩),.int .i64 0] w fun e w'=>e=.returned (.bool true)∧But [] w w':=by
 have T1:=af (fun W (h:But [] w W)=>zej v 0 W (hv.but h) len_zeroX (TabIs.but htab h) ⟨#[48]⟩ txt_zero.symm)
 have T2:=af (fun W (h:But [] w W)=>refText_blank b W (hb.but h))
 obtain⟨x,y,p,rfl,-⟩:=id hv.agg
 clear hv hb htab
 generalize decide ((0:Rat).num<0)=s at *
 obtain⟨V,hV⟩:∃ V,V=w.alloc (.cells #[.bool s,.int .u64 x,.int .u64 y,.pointer p] 27):=⟨_,rfl⟩
 obtain⟨g,hg⟩:∃ g,g=w.heap.size:=⟨_,rfl⟩
 have c0:V.cell? ⟨g,0,none⟩=some (.bool s):=by rw[hV,hg];simp
 have c1:V.cell? ⟨g,1,none⟩=some (.int .u64 x):=by rw[hV,hg];simp
 have c2:V.cell? ⟨g,2,none⟩=some (.int .u64 y):=by rw[hV,hg];simp
 have c3:V.cell? ⟨g,3,none⟩=some (.pointer p):=by rw[hV,hg];simp
 have bV:But [] w V:=by rw[hV];exact (But.refl _ _).alloc _
 have BV:=af bV
 have HV:=af hV
 clear bV hV
 go_enter func19,ntmps19
 go_wp2_with fail
 rw[← ae HV]
 try rw[← hg]
 clear hg HV
 refine (ae T1 V (ae BV)).mono ?_
 rintro e w1 ⟨rfl,B1⟩
 have K1:=af ((ae BV).trans' B1)
 clear B1 c0 c1 c2 c3
 go_wp2_with fail
 refine (ae T2 w1 (ae K1)).mono ?_
 rintro e w2 ⟨rfl,B2⟩
 have K2:=af ((ae K1).trans' B2)
 clear B2
 go_wp2
 go_ret
 exact⟨rfl,ae K2⟩
theorem one_sum (v:Value) (r:Rat) (b:Nat) (w:World) (hv:am w v r) (hb:zdt w b r) (lr:Len r 1000000) (htab:Lib.TabIs prog w "internal/strconv.uint64pow10" .u64 Lib.pow10Tab) :
  Calls prog 19 #[v,.nilIface,.pointer (some ⟨b,0,none⟩),.int .i64 0] w fun e w'=>e=.returned (.bool true)∧But [] w w':=by
 rcases hb with h|⟨rfl,h⟩
 ·exact one_ok v r b w hv h lr htab
 ·exact one_blank v b w hv h htab
end Go.Proofs.YtffghofheeleeaaGreatDoor
