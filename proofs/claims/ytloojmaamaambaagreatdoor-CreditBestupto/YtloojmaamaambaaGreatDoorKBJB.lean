/- Fractions and lists of fractions, as the Go text of package credit reckons with them. -/
import Derived.Test.YtloojmaamaambaaGreatDoorKBJA
import Derived.Test.YtloojmaamaambaaGreatDoorKBOE
namespace Go.Proofs.YtloojmaamaambaaGreatDoor
open Go.RowKit

set_option maxHeartbeats 8000000 in
set_option maxRecDepth 100000 in
theorem square_any (v : Value) (f : Rat) (w : World) (hf : FracAt w v f) (lf : Len f 1000000) :
  Calls Tryz.prog 162 #[v] w fun e w' => ∃ v',e = .returned v'∧FracAt w' v' (f * f)∧But [] w w':=by
 have MU:=hide (fun W (h : But [] w W) => fracMul_any v v f f W (hf.but h) (hf.but h) lf lf)
 obtain ⟨x1,y1,p1,rfl,-⟩:=id hf.agg
 generalize decide (f.num < 0) = s1 at *
 generalize hgf : f * f = ff at *
 clear hf lf hgf
 obtain ⟨A0,hA0⟩ : ∃ A0,A0 = w.alloc (.cells #[.bool s1,.int .u64 x1,.int .u64 y1,.pointer p1] 29):=⟨_,rfl⟩
 obtain ⟨W,hW⟩ : ∃ W,W = A0.alloc (.cells #[.bool false,.int .u64 0,.int .u64 0,.pointer none] 29):=⟨_,rfl⟩
 have sA0 : A0.heap.size = w.heap.size + 1:=by rw [hA0]; simp
 have bA0 : But [] w A0:=by rw [hA0]; exact (But.refl _ _).alloc _
 have bW : But [] A0 W:=by rw [hW]; exact (But.refl _ _).alloc _
 have kA0 : P4 A0 (w.heap.size) s1 x1 y1 p1:=by
  rw [hA0]; exact ⟨by simp,by simp,by simp,by simp⟩
 have K1:=hide (kA0.but bW (by simp))
 have xR : BoxAt W (w.heap.size + 1) 0:=by
  rw [hW,← sA0]
  exact BoxAt.new A0 false 0 0 none 0 29 (zero_at _)
 have BW:=hide ((bA0).trans' bW)
 have XR:=hide xR
 clear bA0 kA0 bW xR
 go_enter Tryz.func162,Tryz.ntmps162
 go_wp2_with fail
 rw [← hA0,← hW]
 refine (unhide MU _ (unhide BW)).mono ?_
 rintro e w1 ⟨v1,rfl,hf1,hb1⟩
 have B1:=hide ((unhide BW).trans' hb1)
 have X1:=hide ((unhide XR).but hb1)
 obtain ⟨x2,y2,p2,rfl,-⟩:=id hf1.agg
 generalize decide (ff.num < 0) = s2 at *
 have HF1:=hide hf1
 clear hb1 hf1 BW XR K1 MU
 clear hA0 sA0 hW
 generalize hg1 : w.heap.size + 1 = g1 at *
 generalize hg0 : w.heap.size = g0 at *
 obtain ⟨⟨t3,a3,b3,q3,⟨c0,c1,c2,c3⟩,-⟩,z3⟩:=unhide X1
 have P2 : Hid (P4 w1 g1 t3 a3 b3 q3):=⟨c0,c1,c2,c3⟩
 go_wp2
 have hP:=put4_but w1 g1 s2 x2 y2 p2
 obtain ⟨m0,m1,m2,m3⟩:=put4_p4 w1 g1 s2 x2 y2 p2 (unhide P2)
 have hF : But [] w (put4 w1 g1 s2 x2 y2 p2):=(unhide B1).trans hP (fun x hx => by simp at hx; subst hx; exact .inr (by omega))
 have hff:=(unhide HF1).over ((unhide P2)).1 hP
 change bodyPost _ _ _ _ _ (put4 w1 g1 s2 x2 y2 p2)
 generalize put4 w1 g1 s2 x2 y2 p2 = F at *
 exact bodyPost_ret (v:=.agg #[.bool s2,.int .u64 x2,.int .u64 y2,.pointer p2]) (by simp [results,Tryz.results162,go_sem,m0,m1,m2,m3]) rfl ⟨_,rfl,hff,hF⟩
set_option maxHeartbeats 8000000 in
set_option maxRecDepth 100000 in
theorem creditQuot_any (v : Value) (f : Rat) (n : Int) (w : World) (hf : FracAt w v f) (lf : Len f 1000000) (hn1 : 1 ≤ n) (hn2 : n ≤ 100000) :
  Calls Tryz.prog 113 #[v,.int .i64 n] w fun e w' => ∃ v',e = .returned v'∧FracAt w' v' (f / ((n : Int) : Rat))∧But [] w w':=by
 obtain ⟨ws,wx,FW,CW⟩:=whole_is n (by omega) (by omega)
 have hn0 : (((n : Int) : Rat)).num ≠ 0:=by rw [(int_parts n).1]; omega
 have DI:=hide (fun W (h : But [] w W) => fracDiv_any v _ f ((n : Int) : Rat) W (hf.but h) (FW W) lf ((len_int n (by omega)).mono (by omega)) hn0)
 have HCW:=hide CW
 obtain ⟨x1,y1,p1,rfl,-⟩:=id hf.agg
 generalize decide (f.num < 0) = s1 at *
 generalize hgf : f / ((n : Int) : Rat) = ff at *
 clear hf lf hgf hn0 FW CW
 obtain ⟨A0,hA0⟩ : ∃ A0,A0 = w.alloc (.cells #[.bool s1,.int .u64 x1,.int .u64 y1,.pointer p1] 29):=⟨_,rfl⟩
 obtain ⟨W,hW⟩ : ∃ W,W = A0.alloc (.cells #[.bool false,.int .u64 0,.int .u64 0,.pointer none] 29):=⟨_,rfl⟩
 have sA0 : A0.heap.size = w.heap.size + 1:=by rw [hA0]; simp
 have bA0 : But [] w A0:=by rw [hA0]; exact (But.refl _ _).alloc _
 have bW : But [] A0 W:=by rw [hW]; exact (But.refl _ _).alloc _
 have kA0 : P4 A0 (w.heap.size) s1 x1 y1 p1:=by
  rw [hA0]; exact ⟨by simp,by simp,by simp,by simp⟩
 have K1:=hide (kA0.but bW (by simp))
 have xR : BoxAt W (w.heap.size + 1) 0:=by
  rw [hW,← sA0]
  exact BoxAt.new A0 false 0 0 none 0 29 (zero_at _)
 have BW:=hide ((bA0).trans' bW)
 have XR:=hide xR
 clear bA0 kA0 bW xR
 go_enter Tryz.func113,Tryz.ntmps113
 go_wp2
 rw [← hA0,← hW]
 clear hA0 sA0 hW
 generalize hg1 : w.heap.size + 1 = g1 at *
 generalize hg0 : w.heap.size = g0 at *
 refine quot_region 1 _ _ W W.heap.size n s1 x1 y1 p1 ws wx ff (by simp) g0 rfl (by simp [Act.eval]) (by simp [Act.eval]) (unhide K1) (unhide HCW) (fun W hb => unhide DI W ((unhide BW).trans' hb)) ?_
 intro w1 bn v3 v4 v5 v8 s2 x2 y2 p2 hb1 hBn hp1 hf1
 simp only [putted,List.foldl_cons,List.foldl_nil,Act.put,List.setIfInBounds_toArray,List.set_cons_zero,List.set_cons_succ]
 have B1:=hide ((unhide BW).trans' hb1)
 have X1:=hide ((unhide XR).but hb1)
 have HF1:=hide hf1
 obtain ⟨d0,d1,d2,d3⟩:=hp1
 clear hb1 hf1 BW XR K1 DI HCW hBn
 obtain ⟨⟨t3,a3,b3,q3,⟨c0,c1,c2,c3⟩,-⟩,z3⟩:=unhide X1
 have P2 : Hid (P4 w1 g1 t3 a3 b3 q3):=⟨c0,c1,c2,c3⟩
 go_wp2
 have hP:=put4_but w1 g1 s2 x2 y2 p2
 obtain ⟨m0,m1,m2,m3⟩:=put4_p4 w1 g1 s2 x2 y2 p2 (unhide P2)
 have hF : But [] w (put4 w1 g1 s2 x2 y2 p2):=(unhide B1).trans hP (fun x hx => by simp at hx; subst hx; exact .inr (by omega))
 have hff:=(unhide HF1).over ((unhide P2)).1 hP
 change bodyPost _ _ _ _ _ (put4 w1 g1 s2 x2 y2 p2)
 generalize put4 w1 g1 s2 x2 y2 p2 = F at *
 exact bodyPost_ret (v:=.agg #[.bool s2,.int .u64 x2,.int .u64 y2,.pointer p2]) (by simp [results,Tryz.results113,go_sem,m0,m1,m2,m3]) rfl ⟨_,rfl,hff,hF⟩
set_option maxHeartbeats 8000000 in
set_option maxRecDepth 100000 in
theorem creditRest_any (v : Value) (f : Rat) (w : World) (hf : FracAt w v f) (lf : Len f 400000) :
  Calls Tryz.prog 108 #[v] w fun e w' => ∃ v',e = .returned v'∧FracAt w' v' (((1 : Int) : Rat) - f)∧But [] w w':=by
 obtain ⟨ws,wx,FW,CW⟩:=whole_is 1 (by omega) (by omega)
 have SU:=hide (fun W (h : But [] w W) => fracSub_any _ v ((1 : Int) : Rat) f W (FW W) (hf.but h) ((len_int 1 (by decide)).mono (by omega)) (lf.mono (by omega)))
 have HCW:=hide CW
 obtain ⟨x1,y1,p1,rfl,-⟩:=id hf.agg
 generalize decide (f.num < 0) = s1 at *
 clear hf lf FW CW
 obtain ⟨A0,hA0⟩ : ∃ A0,A0 = w.alloc (.cells #[.bool s1,.int .u64 x1,.int .u64 y1,.pointer p1] 29):=⟨_,rfl⟩
 obtain ⟨W,hW⟩ : ∃ W,W = A0.alloc (.cells #[.bool false,.int .u64 0,.int .u64 0,.pointer none] 29):=⟨_,rfl⟩
 have sA0 : A0.heap.size = w.heap.size + 1:=by rw [hA0]; simp
 have bA0 : But [] w A0:=by rw [hA0]; exact (But.refl _ _).alloc _
 have bW : But [] A0 W:=by rw [hW]; exact (But.refl _ _).alloc _
 have kA0 : P4 A0 (w.heap.size) s1 x1 y1 p1:=by
  rw [hA0]; exact ⟨by simp,by simp,by simp,by simp⟩
 have K1:=hide (kA0.but bW (by simp))
 have xR : BoxAt W (w.heap.size + 1) 0:=by
  rw [hW,← sA0]
  exact BoxAt.new A0 false 0 0 none 0 29 (zero_at _)
 have BW:=hide ((bA0).trans' bW)
 have XR:=hide xR
 clear bA0 kA0 bW xR
 go_enter Tryz.func108,Tryz.ntmps108
 go_wp2
 rw [← hA0,← hW]
 clear hA0 sA0 hW
 generalize hg1 : w.heap.size + 1 = g1 at *
 generalize hg0 : w.heap.size = g0 at *
 obtain ⟨⟨t3,a3,b3,q3,cc,-⟩,z3⟩:=unhide XR
 refine rest_region 1 _ _ W ws wx s1 x1 y1 p1 f g1 g0 (by simp) (by simp [Act.eval]) cc z3 (by simp [Act.eval]) (unhide K1) (unhide HCW) (fun W hb => unhide SU W ((unhide BW).trans' hb)) ?_
 intro w1 s2 x2 y2 p2 hb1 hf1
 simp only [putted,List.foldl_cons,List.foldl_nil,Act.put,List.setIfInBounds_toArray,List.set_cons_zero,List.set_cons_succ]
 have B1:=hide ((unhide BW).trans' hb1)
 have P2:=hide (cc.but hb1 (by simp))
 have HF1:=hide hf1
 clear hb1 hf1 BW XR K1 SU HCW cc z3
 have hP:=put4_but w1 g1 s2 x2 y2 p2
 obtain ⟨m0,m1,m2,m3⟩:=put4_p4 w1 g1 s2 x2 y2 p2 (unhide P2)
 have hF : But [] w (put4 w1 g1 s2 x2 y2 p2):=(unhide B1).trans hP (fun x hx => by simp at hx; subst hx; exact .inr (by omega))
 have hff:=(unhide HF1).over (unhide P2).1 hP
 generalize put4 w1 g1 s2 x2 y2 p2 = F at *
 clear hP
 go_wp2
 exact bodyPost_ret (v:=.agg #[.bool s2,.int .u64 x2,.int .u64 y2,.pointer p2]) (by simp [results,Tryz.results108,go_sem,m0,m1,m2,m3]) rfl ⟨_,rfl,hff,hF⟩
set_option maxHeartbeats 8000000 in
set_option maxRecDepth 100000 in
theorem nought_any (v : Value) (f : Rat) (w : World) (hf : FracAt w v f) :
  Calls Tryz.prog 114 #[v] w fun e w' => ∃ v',e = .returned v'∧FracAt w' v' (max0 f)∧But [] w w':=by
 have SG:=hide (fun W (h : But [] w W) => fracSign_any v f W (hf.but h))
 have HF:=hide hf
 obtain ⟨x1,y1,p1,rfl,-⟩:=id hf.agg
 generalize decide (f.num < 0) = s1 at *
 obtain ⟨sg,hsg⟩ : ∃ sg,sg = f.num.sign:=⟨_,rfl⟩
 rw [← hsg] at SG
 obtain ⟨M,hM⟩ : ∃ M,M = max0 f:=⟨_,rfl⟩
 have HS : Hid ((sg < 0→M = 0)∧(¬ sg < 0→M = f)):=by
  have h1 : 0 ≤ f.num ↔ 0 ≤ f:=Rat.num_nonneg
  have h2 : sg < 0 ↔ f.num < 0:=by rw [hsg]; exact Int.sign_neg_iff
  rw [hM]
  unfold max0
  refine ⟨fun h => ?_,fun h => ?_⟩
  ·rw [if_neg (fun hh => by have:=h1.2 hh; have:=h2.1 h; omega)]
  ·rw [if_pos (h1.1 (by have : ¬ f.num < 0:=fun hh => h (h2.2 hh); omega))]
 rw [← hM]
 clear hf hsg hM
 obtain ⟨A0,hA0⟩ : ∃ A0,A0 = w.alloc (.cells #[.bool s1,.int .u64 x1,.int .u64 y1,.pointer p1] 29):=⟨_,rfl⟩
 obtain ⟨W,hW⟩ : ∃ W,W = A0.alloc (.cells #[.bool false,.int .u64 0,.int .u64 0,.pointer none] 29):=⟨_,rfl⟩
 have sA0 : A0.heap.size = w.heap.size + 1:=by rw [hA0]; simp
 have bA0 : But [] w A0:=by rw [hA0]; exact (But.refl _ _).alloc _
 have bW : But [] A0 W:=by rw [hW]; exact (But.refl _ _).alloc _
 have kA0 : P4 A0 (w.heap.size) s1 x1 y1 p1:=by
  rw [hA0]; exact ⟨by simp,by simp,by simp,by simp⟩
 have K1:=hide (kA0.but bW (by simp))
 have xR : BoxAt W (w.heap.size + 1) 0:=by
  rw [hW,← sA0]
  exact BoxAt.new A0 false 0 0 none 0 29 (zero_at _)
 have BW:=hide ((bA0).trans' bW)
 have XR:=hide xR
 clear bA0 kA0 bW xR
 go_enter Tryz.func114,Tryz.ntmps114
 go_wp2_with fail
 rw [← hA0,← hW]
 refine (unhide SG _ (unhide BW)).mono ?_
 rintro e w1 ⟨rfl,hb1⟩
 have B1:=hide ((unhide BW).trans' hb1)
 have X1:=hide ((unhide XR).but hb1)
 have K11:=hide ((unhide K1).but hb1 (by simp))
 clear hb1 BW XR K1 SG
 clear hA0 sA0 hW
 generalize hg1 : w.heap.size + 1 = g1 at *
 generalize hg0 : w.heap.size = g0 at *
 obtain ⟨⟨t3,a3,b3,q3,⟨c0,c1,c2,c3⟩,-⟩,z3⟩:=unhide X1
 have P2 : Hid (P4 w1 g1 t3 a3 b3 q3):=⟨c0,c1,c2,c3⟩
 by_cases hlt : sg < 0
 ·obtain rfl:=(unhide HS).1 hlt
  clear HS
  go_wp2
  have hP:=put4_but w1 g1 false 0 0 none
  obtain ⟨m0,m1,m2,m3⟩:=put4_p4 w1 g1 false 0 0 none (unhide P2)
  have hF : But [] w (put4 w1 g1 false 0 0 none):=(unhide B1).trans hP (fun x hx => by simp at hx; subst hx; exact .inr (by omega))
  have hff:=(zero_at w1).over ((unhide P2)).1 hP
  change bodyPost _ _ _ _ _ (put4 w1 g1 false 0 0 none)
  generalize put4 w1 g1 false 0 0 none = F at *
  exact bodyPost_ret (v:=.agg #[.bool false,.int .u64 0,.int .u64 0,.pointer none]) (by simp [results,Tryz.results114,go_sem,m0,m1,m2,m3]) rfl ⟨_,rfl,hff,hF⟩
 ·obtain rfl:=(unhide HS).2 (by omega)
  clear HS
  obtain ⟨e0,e1,e2,e3⟩:=unhide K11
  go_wp2
  have hP:=put4_but w1 g1 s1 x1 y1 p1
  obtain ⟨m0,m1,m2,m3⟩:=put4_p4 w1 g1 s1 x1 y1 p1 (unhide P2)
  have hF : But [] w (put4 w1 g1 s1 x1 y1 p1):=(unhide B1).trans hP (fun x hx => by simp at hx; subst hx; exact .inr (by omega))
  have hff:=((unhide HF).but (unhide B1)).over ((unhide P2)).1 hP
  change bodyPost _ _ _ _ _ (put4 w1 g1 s1 x1 y1 p1)
  generalize put4 w1 g1 s1 x1 y1 p1 = F at *
  exact bodyPost_ret (v:=.agg #[.bool s1,.int .u64 x1,.int .u64 y1,.pointer p1]) (by simp [results,Tryz.results114,go_sem,m0,m1,m2,m3]) rfl ⟨_,rfl,hff,hF⟩
/-- how much of what was seen of one counts -/
def ownR (b d : Rat) : Rat:=if b.num = 0 then 0 else b / (b + d)
set_option maxHeartbeats 8000000 in
set_option maxRecDepth 100000 in
theorem ownPart_any (va vb : Value) (b c : Rat) (w : World) (ha : FracAt w va b) (hb : FracAt w vb c) (la : Len b 200000) (lb : Len c 200000) (hne : b.num ≠ 0→(b + c).num ≠ 0) :
  Calls Tryz.prog 107 #[va,vb] w fun e w' => ∃ v',e = .returned v'∧FracAt w' v' (ownR b c)∧But [] w w':=by
 have SG:=hide (fun W (h : But [] w W) => fracSign_any va b W (ha.but h))
 have AD:=hide (fun W (h : But [] w W) => fracAdd_any va vb b c W (ha.but h) (hb.but h) (la.mono (by omega)) (lb.mono (by omega)))
 have DI : Hid (b.num ≠ 0→∀ W v,But [] w W→FracAt W v (b + c)→Calls Tryz.prog 46 #[va,v] W fun e w' => ∃ v,e = .returned (.tuple #[v,.nilIface])∧FracAt w' v (b / (b + c))∧But [] W w'):=fun h0 W v h hv => fracDiv_any va v b (b + c) W (ha.but h) hv (la.mono (by omega)) (len_add la lb 1000000 (by omega)) (hne h0)
 obtain ⟨x1,y1,p1,rfl,-⟩:=id ha.agg
 generalize decide (b.num < 0) = s1 at *
 obtain ⟨x2,y2,p2,rfl,-⟩:=id hb.agg
 generalize decide (c.num < 0) = s2 at *
 obtain ⟨sg,hsg⟩ : ∃ sg,sg = b.num.sign:=⟨_,rfl⟩
 rw [← hsg] at SG
 have HS : Hid (sg = 0 ↔ b.num = 0):=by show _ ↔ _; rw [hsg]; exact Int.sign_eq_zero_iff_zero
 obtain ⟨M,hM⟩ : ∃ M,M = ownR b c:=⟨_,rfl⟩
 have HM : Hid ((b.num = 0→M = 0)∧(b.num ≠ 0→M = b / (b + c))):=by
  rw [hM]
  unfold ownR
  exact ⟨fun h => by rw [if_pos h],fun h => by rw [if_neg h]⟩
 rw [← hM]
 clear ha hb hsg la lb hne hM
 obtain ⟨A0,hA0⟩ : ∃ A0,A0 = w.alloc (.cells #[.bool s1,.int .u64 x1,.int .u64 y1,.pointer p1] 29):=⟨_,rfl⟩
 obtain ⟨A1,hA1⟩ : ∃ A1,A1 = A0.alloc (.cells #[.bool s2,.int .u64 x2,.int .u64 y2,.pointer p2] 29):=⟨_,rfl⟩
 obtain ⟨W,hW⟩ : ∃ W,W = A1.alloc (.cells #[.bool false,.int .u64 0,.int .u64 0,.pointer none] 29):=⟨_,rfl⟩
 have sA0 : A0.heap.size = w.heap.size + 1:=by rw [hA0]; simp
 have bA0 : But [] w A0:=by rw [hA0]; exact (But.refl _ _).alloc _
 have sA1 : A1.heap.size = w.heap.size + 2:=by rw [hA1]; simp; omega
 have bA1 : But [] A0 A1:=by rw [hA1]; exact (But.refl _ _).alloc _
 have bW : But [] A1 W:=by rw [hW]; exact (But.refl _ _).alloc _
 have kA0 : P4 A0 (w.heap.size) s1 x1 y1 p1:=by
  rw [hA0]; exact ⟨by simp,by simp,by simp,by simp⟩
 have K1:=hide ((kA0.but bA1 (by simp)).but bW (by simp))
 have kA1 : P4 A1 (w.heap.size + 1) s2 x2 y2 p2:=by
  rw [← sA0]
  rw [hA1]; exact ⟨by simp,by simp,by simp,by simp⟩
 have K2:=hide (kA1.but bW (by simp))
 have xR : BoxAt W (w.heap.size + 2) 0:=by
  rw [hW,← sA1]
  exact BoxAt.new A1 false 0 0 none 0 29 (zero_at _)
 have BW:=hide (((bA0).trans' bA1).trans' bW)
 have XR:=hide xR
 clear bA0 kA0 bA1 kA1 bW xR
 go_enter Tryz.func107,Tryz.ntmps107
 go_wp2_with fail
 rw [← hA0,← hA1,← hW]
 refine (unhide SG _ (unhide BW)).mono ?_
 rintro e w1 ⟨rfl,hb1⟩
 have B1:=hide ((unhide BW).trans' hb1)
 have X1:=hide ((unhide XR).but hb1)
 have K11:=hide ((unhide K1).but hb1 (by simp))
 have K21:=hide ((unhide K2).but hb1 (by simp))
 clear hb1 BW XR K1 K2 SG
 clear hA0 sA0 hA1 sA1 hW
 generalize hg2 : w.heap.size + 2 = g2 at *
 generalize hg1 : w.heap.size + 1 = g1 at *
 generalize hg0 : w.heap.size = g0 at *
 by_cases hz : sg = 0
 ·obtain rfl:=(unhide HM).1 ((unhide HS).1 hz)
  clear HM HS
  obtain ⟨⟨t3,a3,b3,q3,⟨c0,c1,c2,c3⟩,-⟩,z3⟩:=unhide X1
  have P2 : Hid (P4 w1 g2 t3 a3 b3 q3):=⟨c0,c1,c2,c3⟩
  subst hz
  go_wp2
  have hP:=put4_but w1 g2 false 0 0 none
  obtain ⟨m0,m1,m2,m3⟩:=put4_p4 w1 g2 false 0 0 none (unhide P2)
  have hF : But [] w (put4 w1 g2 false 0 0 none):=(unhide B1).trans hP (fun x hx => by simp at hx; subst hx; exact .inr (by omega))
  have hff:=(zero_at w1).over ((unhide P2)).1 hP
  change bodyPost _ _ _ _ _ (put4 w1 g2 false 0 0 none)
  generalize put4 w1 g2 false 0 0 none = F at *
  exact bodyPost_ret (v:=.agg #[.bool false,.int .u64 0,.int .u64 0,.pointer none]) (by simp [results,Tryz.results107,go_sem,m0,m1,m2,m3]) rfl ⟨_,rfl,hff,hF⟩
 ·have hbz : b.num ≠ 0:=fun h => hz ((unhide HS).2 h)
  have hm:=(unhide HM).2 hbz
  have DI2:=hide (unhide DI hbz)
  rw [← hm] at DI2
  have HMM:=hide hm
  clear DI hm HM HS
  go_wp2
  refine own_region 3 _ _ w1 w1.heap.size s1 x1 y1 p1 s2 x2 y2 p2 b c (by simp) g0 g1 rfl (by simp [Act.eval]) (by simp [Act.eval]) (unhide K11) (unhide K21) (fun W hb => unhide AD W ((unhide B1).trans' hb)) (fun W hb v hv => by rw [← unhide HMM]; exact unhide DI2 W v ((unhide B1).trans' hb) hv) ?_
  intro w2 bn v3 v4 v5 v6 v9 s4 x4 y4 p4 hb2 hBn hp2 hf2
  simp only [putted,List.foldl_cons,List.foldl_nil,Act.put,List.setIfInBounds_toArray,List.set_cons_zero,List.set_cons_succ]
  have B2:=hide ((unhide B1).trans' hb2)
  have X2:=hide ((unhide X1).but hb2)
  rw [← unhide HMM] at hf2
  have HF2:=hide hf2
  obtain ⟨d0,d1,d2,d3⟩:=hp2
  clear hb2 hf2 B1 X1 K11 K21 AD DI2 hBn
  obtain ⟨⟨t3,a3,b3,q3,⟨c0,c1,c2,c3⟩,-⟩,z3⟩:=unhide X2
  have P2 : Hid (P4 w2 g2 t3 a3 b3 q3):=⟨c0,c1,c2,c3⟩
  go_wp2
  have hP:=put4_but w2 g2 s4 x4 y4 p4
  obtain ⟨m0,m1,m2,m3⟩:=put4_p4 w2 g2 s4 x4 y4 p4 (unhide P2)
  have hF : But [] w (put4 w2 g2 s4 x4 y4 p4):=(unhide B2).trans hP (fun x hx => by simp at hx; subst hx; exact .inr (by omega))
  have hff:=(unhide HF2).over ((unhide P2)).1 hP
  change bodyPost _ _ _ _ _ (put4 w2 g2 s4 x4 y4 p4)
  generalize put4 w2 g2 s4 x4 y4 p4 = F at *
  exact bodyPost_ret (v:=.agg #[.bool s4,.int .u64 x4,.int .u64 y4,.pointer p4]) (by simp [results,Tryz.results107,go_sem,m0,m1,m2,m3]) rfl ⟨_,rfl,hff,hF⟩
set_option maxHeartbeats 16000000 in
set_option maxRecDepth 100000 in
theorem total_any (b off cap n : Nat) (fs : List Rat) (w : World) (hv : FracsAt w (.slice (some ⟨b,off,none⟩) n cap) fs) (hn : n ≤ 1000) (lf : ∀ k,k < n→Len (atR fs k) 400000) (ls : ∀ k,k ≤ n→Len (sgR (atR fs) k) 400000) :
  Calls Tryz.prog 165 #[.slice (some ⟨b,off,none⟩) n cap] w fun e w' => ∃ v,e = .returned v∧FracAt w' v (sgR (atR fs) n)∧But [] w w':=by
 have HV:=hide hv
 have LF:=hide lf
 have LS:=hide ls
 obtain ⟨A,hA⟩ : ∃ A,A = w.alloc (.cells #[.bool false,.int .u64 0,.int .u64 0,.pointer none] 29):=⟨_,rfl⟩
 obtain ⟨W,hW⟩ : ∃ W,W = A.alloc (.cells #[.bool false,.int .u64 0,.int .u64 0,.pointer none] 29):=⟨_,rfl⟩
 have sA : A.heap.size = w.heap.size + 1:=by rw [hA]; simp
 have bA : But [] w A:=by rw [hA]; exact (But.refl _ _).alloc _
 have bW : But [] A W:=by rw [hW]; exact (But.refl _ _).alloc _
 have x2 : BoxAt W w.heap.size 0:=by
  have h:=BoxAt.new w false 0 0 none 0 29 (zero_at _)
  rw [← hA] at h
  exact h.but bW
 have x3 : BoxAt W (w.heap.size + 1) 0:=by
  rw [hW,← sA]
  exact BoxAt.new A false 0 0 none 0 29 (zero_at _)
 have X2:=hide x2
 have X3:=hide x3
 have BW:=hide (bA.trans' bW)
 clear hv lf ls x2 x3 bA bW
 go_enter Tryz.func165,Tryz.ntmps165
 go_wp2
 rw [← hA,← hW]
 clear hA hW sA
 generalize hg3 : w.heap.size + 1 = g3 at *
 generalize hg2 : w.heap.size = g2 at *
 go_loopw [7] (fun iv wr => ∃ k : Nat,k ≤ n∧iv = .int .i64 (k : Int)∧Hid (BoxAt wr g3 (sgR (atR fs) k)∧BoxAt wr g2 0∧But [] w wr)) (fun iv _ => n - (intOf iv).toNat)
 case atStart => exact ⟨0,Nat.zero_le _,rfl,unhide X3,unhide X2,unhide BW⟩
 case round =>
  obtain ⟨k,hk,rfl,HI⟩:=hrel
  rename World => wr
  clear X2 X3 BW
  by_cases hlt : k < n
  ·obtain ⟨h3,h2,hbw⟩:=unhide HI
   obtain ⟨sr,xr,yr,pr,cr,hfr⟩:=((unhide HV).but hbw).get k hlt
   obtain ⟨⟨t5,a5,b5,q5,c5,hf5⟩,z5⟩:=id h3
   have D3:=hide h3
   have D2:=hide h2
   have DB:=hide hbw
   have l1:=unhide LF k hlt
   have l2:=unhide LS k hk
   clear h3 h2 hbw HI
   go_wp2
   refine total_region 5 _ _ wr t5 a5 b5 q5 sr xr yr pr b off n cap k _ _ g3 (by simp) (by simp [Act.eval]) c5 z5 (by simp [Act.eval]) (by simp [Act.eval]) hlt (by omega) c5 cr (fun w' hb => fracAdd_any _ _ _ _ w' (hf5.but hb) (hfr.but hb) (l2.mono (by omega)) (Len.mono (f:=atR fs k) l1 (by omega))) ?_
   intro w7 s7 x7 y7 p7 hb7 hfz
   simp only [putted,List.foldl_cons,List.foldl_nil,Act.put,List.setIfInBounds_toArray,List.set_cons_zero,List.set_cons_succ]
   change FracAt w7 _ (sgR (atR fs) (k + 1)) at hfz
   have hP:=put4_but w7 g3 s7 x7 y7 p7
   have J3:=hide (((unhide D3).but hb7).put hfz)
   have J2:=hide (((unhide D2).but hb7).beside hP (by simp; omega) (fun g hg => by simp at hg; subst hg; exact ((unhide D3).but hb7).bool))
   have JB:=hide (((unhide DB).trans' hb7).trans hP (fun x hx => by simp at hx; subst hx; exact .inr (by omega)))
   generalize put4 w7 g3 s7 x7 y7 p7 = V7 at *
   clear hP hfz hb7 D3 D2 DB c5 cr hf5 hfr z5 l1 l2
   go_wp2
   exact ⟨⟨k + 1,by omega,by go_num,unhide J3,unhide J2,unhide JB⟩,by simp [intOf]; omega⟩
  ·obtain rfl : k = n:=by omega
   obtain ⟨⟨⟨t6,a6,b6,q6,⟨d0,d1,d2,d3⟩,hf6⟩,z6⟩,⟨⟨t2,a2,b2,q2,⟨c0,c1,c2,c3⟩,-⟩,z2⟩,hbw⟩:=unhide HI
   have HF6:=hide hf6
   have HBW:=hide hbw
   have P2 : Hid (P4 wr g2 t2 a2 b2 q2):=⟨c0,c1,c2,c3⟩
   clear HI hf6 hbw
   go_wp2
   have hP:=put4_but wr g2 t6 a6 b6 q6
   obtain ⟨m0,m1,m2,m3⟩:=put4_p4 wr g2 t6 a6 b6 q6 (unhide P2)
   have hF : But [] w (put4 wr g2 t6 a6 b6 q6):=(unhide HBW).trans hP (fun x hx => by simp at hx; subst hx; exact .inr (by omega))
   have hff:=(unhide HF6).over ((unhide P2)).1 hP
   change bodyPost _ _ _ _ _ (put4 wr g2 t6 a6 b6 q6)
   generalize put4 wr g2 t6 a6 b6 q6 = F at *
   exact bodyPost_ret (v:=.agg #[.bool t6,.int .u64 a6,.int .u64 b6,.pointer q6]) (by simp [results,Tryz.results165,go_sem,m0,m1,m2,m3]) rfl ⟨_,rfl,hff,hF⟩
set_option maxHeartbeats 8000000 in
set_option maxRecDepth 100000 in
theorem creditMean_any (b off cap n : Nat) (fs : List Rat) (w : World) (hv : FracsAt w (.slice (some ⟨b,off,none⟩) n cap) fs) (hn0 : 0 < n) (hn : n ≤ 1000) (lf : ∀ k,k < n→Len (atR fs k) 400000) (ls : ∀ k,k ≤ n→Len (sgR (atR fs) k) 400000) :
  Calls Tryz.prog 111 #[.slice (some ⟨b,off,none⟩) n cap] w fun e w' => ∃ v,e = .returned v∧FracAt w' v (sgR (atR fs) n / (((n : Nat) : Int) : Rat))∧But [] w w':=by
 have TO:=hide (fun W (h : But [] w W) => total_any b off cap n fs W (hv.but h) hn lf ls)
 have QU:=hide (fun W v (h : FracAt W v (sgR (atR fs) n)) => creditQuot_any v _ (n : Int) W h ((ls n (Nat.le_refl _)).mono (by omega)) (by omega) (by omega))
 generalize sgR (atR fs) n = S at *
 generalize S / (((n : Nat) : Int) : Rat) = M at *
 have x2:=BoxAt.new w false 0 0 none 0 29 (zero_at _)
 have bA : But [] w (w.alloc (.cells #[.bool false,.int .u64 0,.int .u64 0,.pointer none] 29)):=(But.refl _ _).alloc _
 have X2:=hide x2
 have BA:=hide bA
 have Q2 : Hid (w.heap.size ≤ w.heap.size):=Nat.le_refl _
 clear x2 bA hv lf ls
 go_enter Tryz.func111,Tryz.ntmps111
 go_wp2_with fail
 refine (unhide TO _ (unhide BA)).mono ?_
 rintro e w1 ⟨v1,rfl,hf1,hb1⟩
 have B1:=hide ((unhide BA).trans' hb1)
 have X21:=hide ((unhide X2).but hb1)
 obtain ⟨x1,y1,p1,rfl,-⟩:=id hf1.agg
 generalize decide (S.num < 0) = s1 at *
 have QU1:=hide (unhide QU _ _ hf1)
 clear hb1 hf1 X2 BA TO QU
 go_wp2_with fail
 refine (unhide QU1).mono ?_
 rintro e w2 ⟨v2,rfl,hf2,hb2⟩
 have B2:=hide ((unhide B1).trans' hb2)
 have X22:=hide ((unhide X21).but hb2)
 obtain ⟨x2,y2,p2,rfl,-⟩:=id hf2.agg
 generalize decide (M.num < 0) = s2 at *
 have HF2:=hide hf2
 clear hb2 hf2 X21 B1 QU1
 generalize hg2 : w.heap.size = g2 at *
 obtain ⟨⟨t3,a3,b3,q3,⟨c0,c1,c2,c3⟩,-⟩,z3⟩:=unhide X22
 have P2 : Hid (P4 w2 g2 t3 a3 b3 q3):=⟨c0,c1,c2,c3⟩
 go_wp2
 have hP:=put4_but w2 g2 s2 x2 y2 p2
 obtain ⟨m0,m1,m2,m3⟩:=put4_p4 w2 g2 s2 x2 y2 p2 (unhide P2)
 have hF : But [] w (put4 w2 g2 s2 x2 y2 p2):=(unhide B2).trans hP (fun x hx => by simp at hx; subst hx; exact .inr (by omega))
 have hff:=(unhide HF2).over ((unhide P2)).1 hP
 change bodyPost _ _ _ _ _ (put4 w2 g2 s2 x2 y2 p2)
 generalize put4 w2 g2 s2 x2 y2 p2 = F at *
 exact bodyPost_ret (v:=.agg #[.bool s2,.int .u64 x2,.int .u64 y2,.pointer p2]) (by simp [results,Tryz.results111,go_sem,m0,m1,m2,m3]) rfl ⟨_,rfl,hff,hF⟩
end Go.Proofs.YtloojmaamaambaaGreatDoor

namespace Go.Proofs.YtloojmaamaambaaGreatDoor
open Go.RowKit

/-- how much numbers are spread -/
def spR (f : Nat→Rat) (n : Nat) : Rat:=(sgR (fun j => f j * f j) n - sgR f n / (((n : Nat) : Int) : Rat) * sgR f n) / (((n - 1 : Nat) : Int) : Rat)
theorem atR_map (F : Nat→Rat) (n k : Nat) (hk : k < n) : atR ((List.range n).map F) k = F k:=by
 unfold atR
 rw [List.getElem?_map,List.getElem?_range hk]; rfl
set_option maxHeartbeats 16000000 in
set_option maxRecDepth 100000 in
theorem spread_any (b off cap n : Nat) (fs : List Rat) (w : World) (hv : FracsAt w (.slice (some ⟨b,off,none⟩) n cap) fs) (hn0 : 2 ≤ n) (hn : n ≤ 100) (lf : ∀ k,k < n→Len (atR fs k) 100000) (ls : ∀ k,k ≤ n→Len (sgR (atR fs) k) 100000) (lq : ∀ k,k ≤ n→Len (sgR (fun j => atR fs j * atR fs j) k) 200000) :
  Calls Tryz.prog 112 #[.slice (some ⟨b,off,none⟩) n cap] w fun e w' => ∃ v,e = .returned v∧FracAt w' v (spR (atR fs) n)∧But [] w w':=by
 have SQ:=hide (fun W k v (hk : k < n) (h : FracAt W v (fs[k]?.getD 0)) => in_parts (square_any v (fs[k]?.getD 0) W h ((lf k hk).mono (by omega))))
 have TO:=hide (fun W (h : But [] w W) => total_any b off cap n fs W (hv.but h) (by omega) (fun k hk => (lf k hk).mono (by omega)) (fun k hk => (ls k hk).mono (by omega)))
 have ME:=hide (fun W (h : But [] w W) => creditMean_any b off cap n fs W (hv.but h) (by omega) (by omega) (fun k hk => (lf k hk).mono (by omega)) (fun k hk => (ls k hk).mono (by omega)))
 have hsq : ∀ k,k ≤ n→sgR (atR ((List.range n).map (fun j => atR fs j * atR fs j))) k = sgR (fun j => atR fs j * atR fs j) k:=fun k hk => sgR_congr _ _ k (fun j hj => atR_map _ n j (by omega))
 have TQ : Hid (∀ W g,RowOf W g n (fun j => atR fs j * atR fs j)→Calls Tryz.prog 165 #[.slice (some ⟨g,0,none⟩) n n] W fun e w' => ∃ v,e = .returned v∧FracAt w' v (sgR (fun j => atR fs j * atR fs j) n)∧But [] W w'):=fun W g h => by
  have:=total_any g 0 n n ((List.range n).map (fun j => atR fs j * atR fs j)) W h.fracs (by omega) (fun k hk => by
   rw [atR_map _ n k hk]
   exact len_mul (lf k hk) (lf k hk) 400000 (by omega)) (fun k hk => by
   rw [hsq k hk]
   exact (lq k hk).mono (by omega))
  rw [hsq n (Nat.le_refl _)] at this
  exact this
 have lS:=ls n (Nat.le_refl _)
 have lM : Len (sgR (atR fs) n / (((n : Nat) : Int) : Rat)) 100001:=len_div lS (len_int (n : Int) (by omega)) (by rw [(int_parts (n : Int)).1]; omega) 100001 (by omega)
 have lQ:=lq n (Nat.le_refl _)
 have lP:=len_mul lM lS 200001 (by omega)
 have lD:=len_sub lQ lP 400002 (by omega)
 have MU : Hid (∀ W va vb,FracAt W va (sgR (atR fs) n / (((n : Nat) : Int) : Rat))→FracAt W vb (sgR (atR fs) n)→Calls Tryz.prog 33 #[va,vb] W fun e w' => ∃ v,e = .returned v∧FracAt w' v (sgR (atR fs) n / (((n : Nat) : Int) : Rat) * sgR (atR fs) n)∧But [] W w'):=fun W va vb h1 h2 => fracMul_any va vb _ _ W h1 h2 (lM.mono (by omega)) (lS.mono (by omega))
 have SU : Hid (∀ W va vb,FracAt W va (sgR (fun j => atR fs j * atR fs j) n)→FracAt W vb (sgR (atR fs) n / (((n : Nat) : Int) : Rat) * sgR (atR fs) n)→Calls Tryz.prog 74 #[va,vb] W fun e w' => ∃ v,e = .returned v∧FracAt w' v (sgR (fun j => atR fs j * atR fs j) n - sgR (atR fs) n / (((n : Nat) : Int) : Rat) * sgR (atR fs) n)∧But [] W w'):=fun W va vb h1 h2 => fracSub_any va vb _ _ W h1 h2 (lQ.mono (by omega)) (lP.mono (by omega))
 have QU : Hid (∀ W v,FracAt W v (sgR (fun j => atR fs j * atR fs j) n - sgR (atR fs) n / (((n : Nat) : Int) : Rat) * sgR (atR fs) n)→Calls Tryz.prog 113 #[v,.int .i64 ((n - 1 : Nat) : Int)] W fun e w' => ∃ v',e = .returned v'∧FracAt w' v' (spR (atR fs) n)∧But [] W w'):=fun W v h => creditQuot_any v _ ((n - 1 : Nat) : Int) W h (lD.mono (by omega)) (by omega) (by omega)
 generalize hS : sgR (atR fs) n = S at *
 generalize hM : S / (((n : Nat) : Int) : Rat) = M at *
 generalize hQ : sgR (fun j => atR fs j * atR fs j) n = Q at *
 generalize hPP : M * S = PP at *
 generalize hDD : Q - PP = DD at *
 generalize spR (atR fs) n = R at *
 have HV:=hide hv
 have hmk:=fun wx => run_makeF wx n (by omega)
 clear hv lf ls lq hsq lS lM lQ lP lD hS hM hQ hPP hDD
 obtain ⟨A,hA⟩ : ∃ A,A = w.alloc (.cells #[.bool false,.int .u64 0,.int .u64 0,.pointer none] 29):=⟨_,rfl⟩
 obtain ⟨W,hW⟩ : ∃ W,W = A.alloc (.cells (madeCells #[.bool false,.int .u64 0,.int .u64 0,.pointer none] (n * 4)) 29):=⟨_,rfl⟩
 have sA : A.heap.size = w.heap.size + 1:=by rw [hA]; simp
 have bA : But [] w A:=by rw [hA]; exact (But.refl _ _).alloc _
 have bW : But [] A W:=by rw [hW]; exact (But.refl _ _).alloc _
 have x2 : BoxAt W w.heap.size 0:=by
  have h:=BoxAt.new w false 0 0 none 0 29 (zero_at _)
  rw [← hA] at h
  exact h.but bW
 have rW : Row4 W (w.heap.size + 1) n 0 (fun j => atR fs j * atR fs j):=by rw [hW,← sA]; exact Row4.made A n _
 have lW : w.heap.size + 1 < W.heap.size:=by rw [hW,← sA]; simp
 have X2:=hide x2
 have RW:=hide rW
 have BW:=hide (bA.trans' bW)
 clear x2 rW bA bW
 go_enter Tryz.func112,Tryz.ntmps112
 go_wp2
 rw [← hA,← hW]
 clear hA hW sA hmk
 generalize hg3 : w.heap.size + 1 = G at *
 generalize hg2 : w.heap.size = g2 at *
 go_loopw [10] (fun iv wr => ∃ k : Nat,k ≤ n∧iv = .int .i64 (k : Int)∧Hid (Row4 wr G n k (fun j => atR fs j * atR fs j)∧BoxAt wr g2 0∧G < wr.heap.size∧But [] w wr)) (fun iv _ => n - (intOf iv).toNat)
 case atStart => exact ⟨0,Nat.zero_le _,rfl,unhide RW,unhide X2,lW,unhide BW⟩
 case round =>
  obtain ⟨k,hk,rfl,HI⟩:=hrel
  rename World => wr
  clear RW X2 BW lW
  by_cases hlt : k < n
  ·obtain ⟨hrow,h2,hG2,hb⟩:=unhide HI
   obtain ⟨sr,xr,yr,pr,⟨r0,r1,r2,r3⟩,hfr⟩:=((unhide HV).but hb).get k hlt
   have SK:=hide (unhide SQ wr k _ hlt hfr)
   clear hfr hrow h2 hb
   go_wp2_with fail
   refine (unhide SK).mono ?_
   rintro e w3 ⟨s3,x3,y3,p3,rfl,hv3,hb3⟩
   have HV3 : Hid (FracAt w3 (.agg #[.bool s3,.int .u64 x3,.int .u64 y3,.pointer p3]) (atR fs k * atR fs k)):=hv3
   have B3:=hide hb3
   have hrow3:=(unhide HI).1.but hb3 hG2
   have R3:=hide hrow3
   have pf:=hrow3.loose
   obtain ⟨k0,k1,k2,k3⟩:=hrow3.blank k (Nat.le_refl _) hlt
   clear hv3 hb3 SK r0 r1 r2 r3 hrow3
   go_wp2
   have hS:=but_setCells w3 G [.bool s3,.int .u64 x3,.int .u64 y3,.pointer p3] (k * 4)
   obtain ⟨cb,hcb⟩:=(unhide R3).bool (by omega)
   refine ⟨⟨k + 1,by omega,by go_num,(unhide R3).next hlt s3 x3 y3 p3 (unhide HV3),((unhide HI).2.1.but (unhide B3)).beside hS (by simp; omega) (fun g hg => by simp at hg; subst hg; exact ⟨_,hcb⟩),Nat.lt_of_lt_of_le (Nat.lt_of_lt_of_le hG2 (unhide B3).size) hS.size,((unhide HI).2.2.2.trans' (unhide B3)).trans hS (fun x hx => by simp at hx; subst hx; exact .inr (by omega))⟩,by simp [intOf]; omega⟩
  ·obtain rfl : k = n:=by omega
   obtain ⟨hrow,h2,hG2,hbw⟩:=unhide HI
   have R1 : Hid (RowOf wr G k (fun j => atR fs j * atR fs j)):=⟨hrow.told,hrow.loose⟩
   have TQ1:=hide (unhide TQ wr G (unhide R1))
   have X1:=hide h2
   have B1:=hide hbw
   clear hrow h2 hbw HI TQ SQ hG2
   go_wp2_with fail
   refine (unhide TQ1).mono ?_
   rintro e w2 ⟨v2,rfl,hf2,hb2⟩
   have B2:=hide ((unhide B1).trans' hb2)
   have X2:=hide ((unhide X1).but hb2)
   obtain ⟨x2,y2,p2,rfl,-⟩:=id hf2.agg
   generalize decide (Q.num < 0) = s2 at *
   have F2:=hide hf2
   clear hb2 hf2 B1 X1 TQ1 R1
   go_wp2_with fail
   refine (unhide ME _ (unhide B2)).mono ?_
   rintro e w3 ⟨v3,rfl,hf3,hb3⟩
   have B3:=hide ((unhide B2).trans' hb3)
   have X3:=hide ((unhide X2).but hb3)
   have F23:=hide ((unhide F2).but hb3)
   obtain ⟨x3,y3,p3,rfl,-⟩:=id hf3.agg
   generalize decide (M.num < 0) = s3 at *
   have F3:=hide hf3
   clear hb3 hf3 B2 X2 F2 ME
   go_wp2_with fail
   refine (unhide TO _ (unhide B3)).mono ?_
   rintro e w4 ⟨v4,rfl,hf4,hb4⟩
   have B4:=hide ((unhide B3).trans' hb4)
   have X4:=hide ((unhide X3).but hb4)
   have F24:=hide ((unhide F23).but hb4)
   have F34:=hide ((unhide F3).but hb4)
   obtain ⟨x4,y4,p4,rfl,-⟩:=id hf4.agg
   generalize decide (S.num < 0) = s4 at *
   have MU4:=hide (unhide MU _ _ _ (unhide F34) hf4)
   clear hb4 hf4 B3 X3 F23 F3 TO MU
   go_wp2_with fail
   refine (unhide MU4).mono ?_
   rintro e w5 ⟨v5,rfl,hf5,hb5⟩
   have B5:=hide ((unhide B4).trans' hb5)
   have X5:=hide ((unhide X4).but hb5)
   have F25:=hide ((unhide F24).but hb5)
   obtain ⟨x5,y5,p5,rfl,-⟩:=id hf5.agg
   generalize decide (PP.num < 0) = s5 at *
   have SU5:=hide (unhide SU _ _ _ (unhide F25) hf5)
   clear hb5 hf5 B4 X4 F24 F34 MU4 SU
   go_wp2_with fail
   refine (unhide SU5).mono ?_
   rintro e w6 ⟨v6,rfl,hf6,hb6⟩
   have B6:=hide ((unhide B5).trans' hb6)
   have X6:=hide ((unhide X5).but hb6)
   obtain ⟨x6,y6,p6,rfl,-⟩:=id hf6.agg
   generalize decide (DD.num < 0) = s6 at *
   have QU6:=hide (unhide QU _ _ hf6)
   clear hb6 hf6 B5 X5 F25 SU5 QU
   go_wp2_with fail
   rw [show (k : Int) - 1 = ((k - 1 : Nat) : Int) from by omega]
   refine (unhide QU6).mono ?_
   rintro e w7 ⟨v7,rfl,hf7,hb7⟩
   have B7:=hide ((unhide B6).trans' hb7)
   have X7:=hide ((unhide X6).but hb7)
   obtain ⟨x7,y7,p7,rfl,-⟩:=id hf7.agg
   generalize decide (R.num < 0) = s7 at *
   have F7:=hide hf7
   clear hb7 hf7 B6 X6 QU6
   obtain ⟨⟨t3,a3,b3,q3,⟨c0,c1,c2,c3⟩,-⟩,z3⟩:=unhide X7
   have P2 : Hid (P4 w7 g2 t3 a3 b3 q3):=⟨c0,c1,c2,c3⟩
   go_wp2
   have hP:=put4_but w7 g2 s7 x7 y7 p7
   obtain ⟨m0,m1,m2,m3⟩:=put4_p4 w7 g2 s7 x7 y7 p7 (unhide P2)
   have hF : But [] w (put4 w7 g2 s7 x7 y7 p7):=(unhide B7).trans hP (fun x hx => by simp at hx; subst hx; exact .inr (by omega))
   have hff:=(unhide F7).over ((unhide P2)).1 hP
   change bodyPost _ _ _ _ _ (put4 w7 g2 s7 x7 y7 p7)
   generalize put4 w7 g2 s7 x7 y7 p7 = F at *
   exact bodyPost_ret (v:=.agg #[.bool s7,.int .u64 x7,.int .u64 y7,.pointer p7]) (by simp [results,Tryz.results112,go_sem,m0,m1,m2,m3]) rfl ⟨_,rfl,hff,hF⟩
set_option maxHeartbeats 16000000 in
set_option maxRecDepth 100000 in
theorem premiums_any (b off cap n : Nat) (fs : List Rat) (va vo : Value) (al ow : Rat) (w : World) (hv : FracsAt w (.slice (some ⟨b,off,none⟩) n cap) fs) (ha : FracAt w va al) (ho : FracAt w vo ow) (hn0 : 0 < n) (hn : n ≤ 100) (lf : ∀ k,k < n→Len (atR fs k) 50000) (la : Len al 50000) (lo : Len ow 200000) :
  Calls Tryz.prog 115 #[.slice (some ⟨b,off,none⟩) n cap,va,vo] w fun e w' => ∃ g,e = .returned (.slice (some ⟨g,0,none⟩) n n)∧RowOf w' g n (fun j => al + ow * (atR fs j - al))∧w.heap.size ≤ g∧g < w'.heap.size∧But [] w w':=by
 have HV:=hide hv
 have HA:=hide ha
 have HO:=hide ho
 have LF:=hide lf
 have hmk:=fun wx => run_makeF wx n (by omega)
 obtain ⟨x1,y1,p1,rfl,-⟩:=id ha.agg
 generalize decide (al.num < 0) = s1 at *
 obtain ⟨x2,y2,p2,rfl,-⟩:=id ho.agg
 generalize decide (ow.num < 0) = s2 at *
 clear hv ha ho lf
 obtain ⟨A0,hA0⟩ : ∃ A0,A0 = w.alloc (.cells #[.bool s1,.int .u64 x1,.int .u64 y1,.pointer p1] 29):=⟨_,rfl⟩
 obtain ⟨A1,hA1⟩ : ∃ A1,A1 = A0.alloc (.cells #[.bool s2,.int .u64 x2,.int .u64 y2,.pointer p2] 29):=⟨_,rfl⟩
 obtain ⟨W,hW⟩ : ∃ W,W = A1.alloc (.cells (madeCells #[.bool false,.int .u64 0,.int .u64 0,.pointer none] (n * 4)) 29):=⟨_,rfl⟩
 have sA0 : A0.heap.size = w.heap.size + 1:=by rw [hA0]; simp
 have sA1 : A1.heap.size = w.heap.size + 1 + 1:=by rw [hA1,← sA0]; simp
 have bA0 : But [] w A0:=by rw [hA0]; exact (But.refl _ _).alloc _
 have bA1 : But [] A0 A1:=by rw [hA1]; exact (But.refl _ _).alloc _
 have bW : But [] A1 W:=by rw [hW]; exact (But.refl _ _).alloc _
 have x4 : BoxAt W w.heap.size al:=by
  have h:=BoxAt.new w s1 x1 y1 p1 al 29 (unhide HA)
  rw [← hA0] at h
  exact (h.but bA1).but bW
 have x5 : BoxAt W (w.heap.size + 1) ow:=by
  have h : BoxAt A1 (w.heap.size + 1) ow:=by
   rw [hA1,← sA0]
   exact BoxAt.new A0 s2 x2 y2 p2 ow 29 ((unhide HO).but bA0)
  exact h.but bW
 have rW : RowOf W (w.heap.size + 1 + 1) n (fun _ => 0):=by rw [hW,← sA1]; exact RowOf.made A1 n
 have lW : w.heap.size + 1 + 1 < W.heap.size:=by rw [hW,← sA1]; simp
 have X4:=hide x4
 have X5:=hide x5
 have RW:=hide rW
 have BW:=hide ((bA0.trans' bA1).trans' bW)
 clear x4 x5 rW bA0 bA1 bW
 go_enter Tryz.func115,Tryz.ntmps115
 go_wp2
 rw [← hA0,← hA1,← hW]
 clear hA0 hA1 hW sA0 sA1 hmk HA HO
 generalize hgG : w.heap.size + 1 + 1 = G at *
 generalize hg5 : w.heap.size + 1 = g5 at *
 generalize hg4 : w.heap.size = g4 at *
 go_loopw [15] (fun iv wr => ∃ k : Nat,k ≤ n∧iv = .int .i64 (k : Int)∧Hid ((∃ F,RowOf wr G n F∧∀ j,j < k→F j = al + ow * (atR fs j - al))∧BoxAt wr g4 al∧BoxAt wr g5 ow∧G < wr.heap.size∧But [] w wr)) (fun iv _ => n - (intOf iv).toNat)
 case atStart => exact ⟨0,Nat.zero_le _,rfl,⟨_,unhide RW,fun j hj => absurd hj (by omega)⟩,unhide X4,unhide X5,lW,unhide BW⟩
 case round =>
  obtain ⟨k,hk,rfl,HI⟩:=hrel
  rename World => wr
  clear RW X4 X5 BW lW
  by_cases hlt : k < n
  ·obtain ⟨sr,xr,yr,pr,⟨r0,r1,r2,r3⟩,hfr⟩:=((unhide HV).but (unhide HI).2.2.2.2).get k hlt
   have HFR:=hide hfr
   clear hfr
   go_wp2
   have bA : But [] wr (wr.alloc (.cells #[.bool sr,.int .u64 xr,.int .u64 yr,.pointer pr] 29)):=(But.refl _ _).alloc _
   have x7:=BoxAt.new wr sr xr yr pr _ 29 (unhide HFR)
   obtain ⟨⟨F,hF,hT⟩,h4,h5,hG,hbw⟩:=unhide HI
   have DF:=hide (hF.but bA hG)
   have DT:=hide hT
   have D4:=hide (h4.but bA)
   have D5:=hide (h5.but bA)
   have DB:=hide (hbw.trans' bA)
   have DG : G < (wr.alloc (.cells #[.bool sr,.int .u64 xr,.int .u64 yr,.pointer pr] 29)).heap.size:=Nat.lt_of_lt_of_le hG bA.size
   have X7:=hide x7
   clear bA x7 HFR r0 r1 r2 r3 HI hF hT h4 h5 hG hbw
   generalize wr.heap.size = g9 at *
   generalize wr.alloc (.cells #[.bool sr,.int .u64 xr,.int .u64 yr,.pointer pr] 29) = U at *
   obtain ⟨⟨t1,a1,b1,q1,c1,f1⟩,-⟩:=unhide D4
   obtain ⟨⟨t2,a2,b2,q2,c2,f2⟩,-⟩:=unhide D5
   obtain ⟨⟨t3,a3,b3,q3,c3,f3⟩,-⟩:=unhide X7
   obtain ⟨tb,ab,bb,qb,cb,-⟩:=(unhide DF).told k hlt
   have l3 : Len (fs[k]?.getD 0) 50000:=unhide LF k hlt
   have ls:=len_sub l3 la 100001 (by omega)
   have lp:=len_mul lo ls 300001 (by omega)
   refine premiums_region 5 _ _ U G (k * 4) n k t1 a1 b1 q1 t2 a2 b2 q2 t3 a3 b3 q3 al ow _ g4 g5 g9 (by simp) cb (fun o => (unhide DF).loose o) (by simp [Act.eval]) (by simp [Act.eval]) (by simp [Act.eval]) (by simp [Act.eval]) (by simp [Act.eval]) (by omega) hlt (by omega) c1 c2 c3 (fun w' hb => fracSub_any _ _ _ _ w' (f3.but hb) (f1.but hb) (l3.mono (by omega)) (la.mono (by omega))) (fun w' hb v hv => fracMul_any _ _ _ _ w' (f2.but hb) hv (lo.mono (by omega)) (ls.mono (by omega))) (fun w' hb v hv => fracAdd_any _ _ _ _ w' (f1.but hb) hv (la.mono (by omega)) (lp.mono (by omega))) ?_
   intro w5 v6 v7 s' x' y' p' hb5 hf5
   simp only [putted,List.foldl_cons,List.foldl_nil,Act.put,List.setIfInBounds_toArray,List.set_cons_zero,List.set_cons_succ]
   have hS:=but_setCells w5 G [.bool s',.int .u64 x',.int .u64 y',.pointer p'] (k * 4)
   have r5:=(unhide DF).but hb5 DG
   have hbo:=r5.bool (show 0 < n by omega)
   have JJ : Hid ((∃ F,RowOf (w5.setCells G (k * 4) [.bool s',.int .u64 x',.int .u64 y',.pointer p']) G n F∧∀ j,j < k + 1→F j = al + ow * (atR fs j - al))∧BoxAt (w5.setCells G (k * 4) [.bool s',.int .u64 x',.int .u64 y',.pointer p']) g4 al∧BoxAt (w5.setCells G (k * 4) [.bool s',.int .u64 x',.int .u64 y',.pointer p']) g5 ow∧G < (w5.setCells G (k * 4) [.bool s',.int .u64 x',.int .u64 y',.pointer p']).heap.size∧But [] w (w5.setCells G (k * 4) [.bool s',.int .u64 x',.int .u64 y',.pointer p'])) :=
    ⟨⟨_,r5.set hlt s' x' y' p' _ hf5,fun j hj => by
     unfold setF
     by_cases e : j = k
     ·rw [if_pos e,e]; rfl
     ·rw [if_neg e]; exact unhide DT j (by omega)⟩,((unhide D4).but hb5).beside hS (by simp; omega) (fun g hg => by simp at hg; subst hg; exact hbo),((unhide D5).but hb5).beside hS (by simp; omega) (fun g hg => by simp at hg; subst hg; exact hbo),Nat.lt_of_lt_of_le (Nat.lt_of_lt_of_le DG hb5.size) hS.size,((unhide DB).trans' hb5).trans hS (fun x hx => by simp at hx; subst hx; exact .inr (by omega))⟩
   generalize w5.setCells G (k * 4) [.bool s',.int .u64 x',.int .u64 y',.pointer p'] = V5 at *
   clear hS r5 hbo hb5 hf5 DF DT D4 D5 DB X7 c1 c2 c3 f1 f2 f3 cb l3 ls lp
   go_wp2
   exact ⟨⟨k + 1,by omega,by go_num,unhide JJ⟩,by simp [intOf]; omega⟩
  ·obtain rfl : k = n:=by omega
   obtain ⟨⟨F,hF,hT⟩,-,-,hG,hbw⟩:=unhide HI
   have JJ : Hid (RowOf wr G k (fun j => al + ow * (atR fs j - al))):=hF.congr (fun j hj => hT j hj)
   have JB:=hide hbw
   clear hF hT hbw HI
   go_wp2
   go_ret
   exact ⟨G,rfl,unhide JJ,by omega,hG,unhide JB⟩
end Go.Proofs.YtloojmaamaambaaGreatDoor
