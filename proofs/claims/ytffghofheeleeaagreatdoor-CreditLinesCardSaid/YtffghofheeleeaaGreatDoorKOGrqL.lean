/- Out of OG: what needs no more than these -/
import Derived.Shelf.Abstract
import Derived.Test.YtffghofheeleeaaGreatDoorKT2qL
namespace Go.Proofs.YtffghofheeleeaaGreatDoor
open Go.Proofs.Tryz
open Go.RowKit
set_option maxHeartbeats 16000000
set_option maxRecDepth 100000
theorem zbw (n:Nat) (h:1≤n):Len 0 n:=⟨Nat.le_trans (aj (by omega) _ 1 (by decide)) h,Nat.le_trans (aj (by omega) _ 1 (by decide)) h⟩
theorem zku (f g:Nat→Rat):∀ n,sgR (fun k=>f k-g k) n=sgR f n-sgR g n
 | 0=>by
  show (0:Rat)=0-0
  grind
 | n+1=>by
  show sgR _ n+(f n-g n)=sgR f n+f n-(sgR g n+g n)
  rw[zku f g n];grind
theorem zax (v:Value) (f:Rat) (w:World) (hf:aq w v f) (lf:Len f 1000000) :
  Calls prog 117 #[v] w fun e w'=>∃ v',e=.returned v'∧aq w' v' (f*f)∧But [] w w':=by
 have MU:=af (fun W (h:But [] w W)=>dh v v f f W (hf.but h) (hf.but h) lf lf)
 obtain⟨x1,y1,p1,rfl,-⟩:=id hf.agg
 generalize decide (f.num<0)=s1 at *
 generalize hgf:f*f=ff at *
 clear hf lf hgf
 obtain⟨A0,hA0⟩:∃ A0,A0=w.alloc (.cells #[.bool s1,.int .u64 x1,.int .u64 y1,.pointer p1] 27):=⟨_,rfl⟩
 obtain⟨W,hW⟩:∃ W,W=A0.alloc (.cells #[.bool false,.int .u64 0,.int .u64 0,.pointer none] 27):=⟨_,rfl⟩
 have sA0:A0.heap.size=w.heap.size+1:=by rw[hA0];simp
 have bA0:But [] w A0:=by rw[hA0];exact (But.refl _ _).alloc _
 have bW:But [] A0 W:=by rw[hW];exact (But.refl _ _).alloc _
 have kA0:P4 A0 (w.heap.size) s1 x1 y1 p1:=by
  rw[hA0];exact⟨by simp,by simp,by simp,by simp⟩
 have K1:=af (kA0.but bW (by simp))
 have xR:bh W (w.heap.size+1) 0:=by
  rw[hW,← sA0]
  exact bh.new A0 false 0 0 none 0 27 (jb _)
 have BW:=af ((bA0).trans' bW)
 have XR:=af xR
 clear bA0 kA0 bW xR
 go_enter func117,ntmps117
 go_wp2_with fail
 rw[← hA0,← hW]
 refine (ae MU _ (ae BW)).mono ?_
 rintro e w1 ⟨v1,rfl,hf1,hb1⟩
 have B1:=af ((ae BW).trans' hb1)
 have X1:=af ((ae XR).but hb1)
 obtain⟨x2,y2,p2,rfl,-⟩:=id hf1.agg
 generalize decide (ff.num<0)=s2 at *
 have HF1:=af hf1
 clear hb1 hf1 BW XR K1 MU
 clear hA0 sA0 hW
 generalize hg1:w.heap.size+1=g1 at *
 generalize hg0:w.heap.size=g0 at *
 obtain⟨⟨t3,a3,b3,q3,⟨c0,c1,c2,c3⟩,-⟩,z3⟩:=ae X1
 have P2:Hid (P4 w1 g1 t3 a3 b3 q3):=⟨c0,c1,c2,c3⟩
 go_wp2
 have hP:=ay w1 g1 s2 x2 y2 p2
 obtain⟨m0,m1,m2,m3⟩:=jl w1 g1 s2 x2 y2 p2 (ae P2)
 have hF:But [] w (zy w1 g1 s2 x2 y2 p2):=(ae B1).trans hP (fun x hx=>by simp at hx;subst hx;exact .inr (by omega))
 have hff:=(ae HF1).over ((ae P2)).1 hP
 change bodyPost _ _ _ _ _ (zy w1 g1 s2 x2 y2 p2)
 generalize zy w1 g1 s2 x2 y2 p2=F at *
 exact bodyPost_ret (v:=.agg #[.bool s2,.int .u64 x2,.int .u64 y2,.pointer p2]) (by simp[results,results117,go_sem,m0,m1,m2,m3]) rfl ⟨_,rfl,hff,hF⟩
theorem zac (v:Value) (f:Rat) (n:Int) (w:World) (hf:aq w v f) (lf:Len f 1000000) (hn1:1≤n) (hn2:n≤100000) :
  Calls prog 63 #[v,.int .i64 n] w fun e w'=>∃ v',e=.returned v'∧aq w' v' (f/((n:Int):Rat))∧But [] w w':=by
 obtain⟨ws,wx,FW,CW⟩:=zel n (by omega) (by omega)
 have hn0:(((n:Int):Rat)).num≠0:=by rw[(bp n).1];omega
 have DI:=af (fun W (h:But [] w W)=>zft v _ f ((n:Int):Rat) W (hf.but h) (FW W) lf ((kr n (by omega)).mono (by omega)) hn0)
 have HCW:=af CW
 obtain⟨x1,y1,p1,rfl,-⟩:=id hf.agg
 generalize decide (f.num<0)=s1 at *
 generalize hgf:f/((n:Int):Rat)=ff at *
 clear hf lf hgf hn0 FW CW
 obtain⟨A0,hA0⟩:∃ A0,A0=w.alloc (.cells #[.bool s1,.int .u64 x1,.int .u64 y1,.pointer p1] 27):=⟨_,rfl⟩
 obtain⟨W,hW⟩:∃ W,W=A0.alloc (.cells #[.bool false,.int .u64 0,.int .u64 0,.pointer none] 27):=⟨_,rfl⟩
 have sA0:A0.heap.size=w.heap.size+1:=by rw[hA0];simp
 have bA0:But [] w A0:=by rw[hA0];exact (But.refl _ _).alloc _
 have bW:But [] A0 W:=by rw[hW];exact (But.refl _ _).alloc _
 have kA0:P4 A0 (w.heap.size) s1 x1 y1 p1:=by
  rw[hA0];exact⟨by simp,by simp,by simp,by simp⟩
 have K1:=af (kA0.but bW (by simp))
 have xR:bh W (w.heap.size+1) 0:=by
  rw[hW,← sA0]
  exact bh.new A0 false 0 0 none 0 27 (jb _)
 have BW:=af ((bA0).trans' bW)
 have XR:=af xR
 clear bA0 kA0 bW xR
 go_enter func63,ntmps63
 go_wp2
 rw[← hA0,← hW]
 clear hA0 sA0 hW
 generalize hg1:w.heap.size+1=g1 at *
 generalize hg0:w.heap.size=g0 at *
 refine zik 1 _ _ W W.heap.size n s1 x1 y1 p1 ws wx ff (by simp) g0 rfl (by simp[Act.eval]) (by simp[Act.eval]) (ae K1) (ae HCW) (fun W hb=>ae DI W ((ae BW).trans' hb)) ?_
 intro w1 bn v3 v4 v5 v8 s2 x2 y2 p2 hb1 hBn hp1 hf1
 simp only[bk,List.foldl_cons,List.foldl_nil,Act.put,List.setIfInBounds_toArray,List.set_cons_zero,List.set_cons_succ]
 have B1:=af ((ae BW).trans' hb1)
 have X1:=af ((ae XR).but hb1)
 have HF1:=af hf1
 obtain⟨d0,d1,d2,d3⟩:=hp1
 clear hb1 hf1 BW XR K1 DI HCW hBn
 obtain⟨⟨t3,a3,b3,q3,⟨c0,c1,c2,c3⟩,-⟩,z3⟩:=ae X1
 have P2:Hid (P4 w1 g1 t3 a3 b3 q3):=⟨c0,c1,c2,c3⟩
 go_wp2
 have hP:=ay w1 g1 s2 x2 y2 p2
 obtain⟨m0,m1,m2,m3⟩:=jl w1 g1 s2 x2 y2 p2 (ae P2)
 have hF:But [] w (zy w1 g1 s2 x2 y2 p2):=(ae B1).trans hP (fun x hx=>by simp at hx;subst hx;exact .inr (by omega))
 have hff:=(ae HF1).over ((ae P2)).1 hP
 change bodyPost _ _ _ _ _ (zy w1 g1 s2 x2 y2 p2)
 generalize zy w1 g1 s2 x2 y2 p2=F at *
 exact bodyPost_ret (v:=.agg #[.bool s2,.int .u64 x2,.int .u64 y2,.pointer p2]) (by simp[results,results63,go_sem,m0,m1,m2,m3]) rfl ⟨_,rfl,hff,hF⟩
theorem zja (v:Value) (f:Rat) (w:World) (hf:aq w v f) (lf:Len f 400000) :
  Calls prog 55 #[v] w fun e w'=>∃ v',e=.returned v'∧aq w' v' (((1:Int):Rat)-f)∧But [] w w':=by
 obtain⟨ws,wx,FW,CW⟩:=zel 1 (by omega) (by omega)
 have SU:=af (fun W (h:But [] w W)=>zbh _ v ((1:Int):Rat) f W (FW W) (hf.but h) ((kr 1 (by decide)).mono (by omega)) (lf.mono (by omega)))
 have HCW:=af CW
 obtain⟨x1,y1,p1,rfl,-⟩:=id hf.agg
 generalize decide (f.num<0)=s1 at *
 clear hf lf FW CW
 obtain⟨A0,hA0⟩:∃ A0,A0=w.alloc (.cells #[.bool s1,.int .u64 x1,.int .u64 y1,.pointer p1] 27):=⟨_,rfl⟩
 obtain⟨W,hW⟩:∃ W,W=A0.alloc (.cells #[.bool false,.int .u64 0,.int .u64 0,.pointer none] 27):=⟨_,rfl⟩
 have sA0:A0.heap.size=w.heap.size+1:=by rw[hA0];simp
 have bA0:But [] w A0:=by rw[hA0];exact (But.refl _ _).alloc _
 have bW:But [] A0 W:=by rw[hW];exact (But.refl _ _).alloc _
 have kA0:P4 A0 (w.heap.size) s1 x1 y1 p1:=by
  rw[hA0];exact⟨by simp,by simp,by simp,by simp⟩
 have K1:=af (kA0.but bW (by simp))
 have xR:bh W (w.heap.size+1) 0:=by
  rw[hW,← sA0]
  exact bh.new A0 false 0 0 none 0 27 (jb _)
 have BW:=af ((bA0).trans' bW)
 have XR:=af xR
 clear bA0 kA0 bW xR
 go_enter func55,ntmps55
 go_wp2
 rw[← hA0,← hW]
 clear hA0 sA0 hW
 generalize hg1:w.heap.size+1=g1 at *
 generalize hg0:w.heap.size=g0 at *
 obtain⟨⟨t3,a3,b3,q3,cc,-⟩,z3⟩:=ae XR
 refine zyq 1 _ _ W ws wx s1 x1 y1 p1 f g1 g0 (by simp) (by simp[Act.eval]) cc z3 (by simp[Act.eval]) (ae K1) (ae HCW) (fun W hb=>ae SU W ((ae BW).trans' hb)) ?_
 intro w1 s2 x2 y2 p2 hb1 hf1
 simp only[bk,List.foldl_cons,List.foldl_nil,Act.put,List.setIfInBounds_toArray,List.set_cons_zero,List.set_cons_succ]
 have B1:=af ((ae BW).trans' hb1)
 have P2:=af (cc.but hb1 (by simp))
 have HF1:=af hf1
 clear hb1 hf1 BW XR K1 SU HCW cc z3
 have hP:=ay w1 g1 s2 x2 y2 p2
 obtain⟨m0,m1,m2,m3⟩:=jl w1 g1 s2 x2 y2 p2 (ae P2)
 have hF:But [] w (zy w1 g1 s2 x2 y2 p2):=(ae B1).trans hP (fun x hx=>by simp at hx;subst hx;exact .inr (by omega))
 have hff:=(ae HF1).over (ae P2).1 hP
 generalize zy w1 g1 s2 x2 y2 p2=F at *
 clear hP
 go_wp2
 exact bodyPost_ret (v:=.agg #[.bool s2,.int .u64 x2,.int .u64 y2,.pointer p2]) (by simp[results,results55,go_sem,m0,m1,m2,m3]) rfl ⟨_,rfl,hff,hF⟩
def zaz (b d:Rat):Rat:=if b.num=0 then 0 else b/(b+d)
theorem zim (va vb:Value) (b c:Rat) (w:World) (ha:aq w va b) (hb:aq w vb c) (la:Len b 200000) (lb:Len c 200000) (hne:b.num≠0→(b+c).num≠0) :
  Calls prog 54 #[va,vb] w fun e w'=>∃ v',e=.returned v'∧aq w' v' (zaz b c)∧But [] w w':=by
 have SG:=af (fun W (h:But [] w W)=>j6 va b W (ha.but h))
 have AD:=af (fun W (h:But [] w W)=>zaa va vb b c W (ha.but h) (hb.but h) (la.mono (by omega)) (lb.mono (by omega)))
 have DI:Hid (b.num≠0→∀ W v,But [] w W→aq W v (b+c)→Calls prog 119 #[va,v] W fun e w'=>∃ v,e=.returned (.tuple #[v,.nilIface])∧aq w' v (b/(b+c))∧But [] W w'):=fun h0 W v h hv=>zft va v b (b+c) W (ha.but h) hv (la.mono (by omega)) (mi la lb 1000000 (by omega)) (hne h0)
 obtain⟨x1,y1,p1,rfl,-⟩:=id ha.agg
 generalize decide (b.num<0)=s1 at *
 obtain⟨x2,y2,p2,rfl,-⟩:=id hb.agg
 generalize decide (c.num<0)=s2 at *
 obtain⟨sg,hsg⟩:∃ sg,sg=b.num.sign:=⟨_,rfl⟩
 rw[← hsg] at SG
 have HS:Hid (sg=0↔b.num=0):=by show _↔_;rw[hsg];exact Int.sign_eq_zero_iff_zero
 obtain⟨M,hM⟩:∃ M,M=zaz b c:=⟨_,rfl⟩
 have HM:Hid ((b.num=0→M=0)∧(b.num≠0→M=b/(b+c))):=by
  rw[hM]
  unfold zaz
  exact⟨fun h=>by rw[if_pos h],fun h=>by rw[if_neg h]⟩
 rw[← hM]
 clear ha hb hsg la lb hne hM
 obtain⟨A0,hA0⟩:∃ A0,A0=w.alloc (.cells #[.bool s1,.int .u64 x1,.int .u64 y1,.pointer p1] 27):=⟨_,rfl⟩
 obtain⟨A1,hA1⟩:∃ A1,A1=A0.alloc (.cells #[.bool s2,.int .u64 x2,.int .u64 y2,.pointer p2] 27):=⟨_,rfl⟩
 obtain⟨W,hW⟩:∃ W,W=A1.alloc (.cells #[.bool false,.int .u64 0,.int .u64 0,.pointer none] 27):=⟨_,rfl⟩
 have sA0:A0.heap.size=w.heap.size+1:=by rw[hA0];simp
 have bA0:But [] w A0:=by rw[hA0];exact (But.refl _ _).alloc _
 have sA1:A1.heap.size=w.heap.size+2:=by rw[hA1];simp;omega
 have bA1:But [] A0 A1:=by rw[hA1];exact (But.refl _ _).alloc _
 have bW:But [] A1 W:=by rw[hW];exact (But.refl _ _).alloc _
 have kA0:P4 A0 (w.heap.size) s1 x1 y1 p1:=by
  rw[hA0];exact⟨by simp,by simp,by simp,by simp⟩
 have K1:=af ((kA0.but bA1 (by simp)).but bW (by simp))
 have kA1:P4 A1 (w.heap.size+1) s2 x2 y2 p2:=by
  rw[← sA0]
  rw[hA1];exact⟨by simp,by simp,by simp,by simp⟩
 have K2:=af (kA1.but bW (by simp))
 have xR:bh W (w.heap.size+2) 0:=by
  rw[hW,← sA1]
  exact bh.new A1 false 0 0 none 0 27 (jb _)
 have BW:=af (((bA0).trans' bA1).trans' bW)
 have XR:=af xR
 clear bA0 kA0 bA1 kA1 bW xR
 go_enter func54,ntmps54
 go_wp2_with fail
 rw[← hA0,← hA1,← hW]
 refine (ae SG _ (ae BW)).mono ?_
 rintro e w1 ⟨rfl,hb1⟩
 have B1:=af ((ae BW).trans' hb1)
 have X1:=af ((ae XR).but hb1)
 have K11:=af ((ae K1).but hb1 (by simp))
 have K21:=af ((ae K2).but hb1 (by simp))
 clear hb1 BW XR K1 K2 SG
 clear hA0 sA0 hA1 sA1 hW
 generalize hg2:w.heap.size+2=g2 at *
 generalize hg1:w.heap.size+1=g1 at *
 generalize hg0:w.heap.size=g0 at *
 by_cases hz:sg=0
 ·obtain rfl:=(ae HM).1 ((ae HS).1 hz)
  clear HM HS
  obtain⟨⟨t3,a3,b3,q3,⟨c0,c1,c2,c3⟩,-⟩,z3⟩:=ae X1
  have P2:Hid (P4 w1 g2 t3 a3 b3 q3):=⟨c0,c1,c2,c3⟩
  subst hz
  go_wp2
  have hP:=ay w1 g2 false 0 0 none
  obtain⟨m0,m1,m2,m3⟩:=jl w1 g2 false 0 0 none (ae P2)
  have hF:But [] w (zy w1 g2 false 0 0 none):=(ae B1).trans hP (fun x hx=>by simp at hx;subst hx;exact .inr (by omega))
  have hff:=(jb w1).over ((ae P2)).1 hP
  change bodyPost _ _ _ _ _ (zy w1 g2 false 0 0 none)
  generalize zy w1 g2 false 0 0 none=F at *
  exact bodyPost_ret (v:=.agg #[.bool false,.int .u64 0,.int .u64 0,.pointer none]) (by simp[results,results54,go_sem,m0,m1,m2,m3]) rfl ⟨_,rfl,hff,hF⟩
 ·have hbz:b.num≠0:=fun h=>hz ((ae HS).2 h)
  have hm:=(ae HM).2 hbz
  have DI2:=af (ae DI hbz)
  rw[← hm] at DI2
  have HMM:=af hm
  clear DI hm HM HS
  go_wp2
  refine zkf 3 _ _ w1 w1.heap.size s1 x1 y1 p1 s2 x2 y2 p2 b c (by simp) g0 g1 rfl (by simp[Act.eval]) (by simp[Act.eval]) (ae K11) (ae K21) (fun W hb=>ae AD W ((ae B1).trans' hb)) (fun W hb v hv=>by rw[← ae HMM];exact ae DI2 W v ((ae B1).trans' hb) hv) ?_
  intro w2 bn v3 v4 v5 v6 v9 s4 x4 y4 p4 hb2 hBn hp2 hf2
  simp only[bk,List.foldl_cons,List.foldl_nil,Act.put,List.setIfInBounds_toArray,List.set_cons_zero,List.set_cons_succ]
  have B2:=af ((ae B1).trans' hb2)
  have X2:=af ((ae X1).but hb2)
  rw[← ae HMM] at hf2
  have HF2:=af hf2
  obtain⟨d0,d1,d2,d3⟩:=hp2
  clear hb2 hf2 B1 X1 K11 K21 AD DI2 hBn
  obtain⟨⟨t3,a3,b3,q3,⟨c0,c1,c2,c3⟩,-⟩,z3⟩:=ae X2
  have P2:Hid (P4 w2 g2 t3 a3 b3 q3):=⟨c0,c1,c2,c3⟩
  go_wp2
  have hP:=ay w2 g2 s4 x4 y4 p4
  obtain⟨m0,m1,m2,m3⟩:=jl w2 g2 s4 x4 y4 p4 (ae P2)
  have hF:But [] w (zy w2 g2 s4 x4 y4 p4):=(ae B2).trans hP (fun x hx=>by simp at hx;subst hx;exact .inr (by omega))
  have hff:=(ae HF2).over ((ae P2)).1 hP
  change bodyPost _ _ _ _ _ (zy w2 g2 s4 x4 y4 p4)
  generalize zy w2 g2 s4 x4 y4 p4=F at *
  exact bodyPost_ret (v:=.agg #[.bool s4,.int .u64 x4,.int .u64 y4,.pointer p4]) (by simp[results,results54,go_sem,m0,m1,m2,m3]) rfl ⟨_,rfl,hff,hF⟩
def ze (ks:List Kd) (k:Nat):Kd:=ks[k]?.getD ⟨0,0,0⟩
def qjf (s1:Bool) (x1 y1:Int) (p1:Option Addr) (s2:Bool) (x2 y2:Int) (p2:Option Addr) (s3:Bool) (x3 y3:Int) (p3:Option Addr) (k:Kd):Prop:=(∀ W,aq W (.agg #[.bool s1,.int .u64 x1,.int .u64 y1,.pointer p1]) k.ch)∧(∀ W,aq W (.agg #[.bool s2,.int .u64 x2,.int .u64 y2,.pointer p2]) k.me)∧∀ W,aq W (.agg #[.bool s3,.int .u64 x3,.int .u64 y3,.pointer p3]) k.sp
theorem qbb (s1:Bool) (x1 y1:Int) (p1:Option Addr) (s2:Bool) (x2 y2:Int) (p2:Option Addr) (s3:Bool) (x3 y3:Int) (p3:Option Addr) (k:Kd) (w:World) (_hk:qjf s1 x1 y1 p1 s2 x2 y2 p2 s3 x3 y3 p3 k) :
  Calls prog 114 #[.agg #[.bool s1,.int .u64 x1,.int .u64 y1,.pointer p1,.bool s2,.int .u64 x2,.int .u64 y2,.pointer p2,.bool s3,.int .u64 x3,.int .u64 y3,.pointer p3]] w fun e w'=>∃ v,e=.returned v∧aq w' v ((1:Int):Rat)∧But [] w w':=by
 obtain⟨ws,wx,FW,CW⟩:=zel 1 (by omega) (by omega)
 have HCW:=af CW
 have HFW:=af FW
 clear FW CW
 obtain⟨A,hA⟩:∃ A,A=w.alloc (.cells #[.bool s1,.int .u64 x1,.int .u64 y1,.pointer p1,.bool s2,.int .u64 x2,.int .u64 y2,.pointer p2,.bool s3,.int .u64 x3,.int .u64 y3,.pointer p3] 45):=⟨_,rfl⟩
 obtain⟨W,hW⟩:∃ W,W=A.alloc (.cells #[.bool false,.int .u64 0,.int .u64 0,.pointer none] 27):=⟨_,rfl⟩
 have sA:A.heap.size=w.heap.size+1:=by rw[hA];simp
 have bA:But [] w A:=by rw[hA];exact (But.refl _ _).alloc _
 have bW:But [] A W:=by rw[hW];exact (But.refl _ _).alloc _
 have xR:bh W (w.heap.size+1) 0:=by
  rw[hW,← sA]
  exact bh.new A false 0 0 none 0 27 (jb _)
 have XR:=af xR
 have BW:=af (bA.trans' bW)
 clear bA bW xR
 go_enter func114,ntmps114
 go_wp2_with fail
 rw[← hA,← hW]
 refine (ae HCW _).mono ?_
 rintro e w1 ⟨rfl,hb1⟩
 have B1:=af ((ae BW).trans' hb1)
 have X1:=af ((ae XR).but hb1)
 clear hb1 BW XR HCW hA hW sA
 generalize hg1:w.heap.size+1=g1 at *
 obtain⟨⟨t3,a3,b3,q3,⟨c0,c1,c2,c3⟩,-⟩,z3⟩:=ae X1
 have P2:Hid (P4 w1 g1 t3 a3 b3 q3):=⟨c0,c1,c2,c3⟩
 go_wp2
 have hP:=ay w1 g1 ws wx 0 none
 obtain⟨m0,m1,m2,m3⟩:=jl w1 g1 ws wx 0 none (ae P2)
 have hF:But [] w (zy w1 g1 ws wx 0 none):=(ae B1).trans hP (fun x hx=>by simp at hx;subst hx;exact .inr (by omega))
 have hff:=(ae HFW w1).over ((ae P2)).1 hP
 change bodyPost _ _ _ _ _ (zy w1 g1 ws wx 0 none)
 generalize zy w1 g1 ws wx 0 none=F at *
 exact bodyPost_ret (v:=.agg #[.bool ws,.int .u64 wx,.int .u64 0,.pointer none]) (by simp[results,results114,go_sem,m0,m1,m2,m3]) rfl ⟨_,rfl,hff,hF⟩
theorem qiq (s1:Bool) (x1 y1:Int) (p1:Option Addr) (s2:Bool) (x2 y2:Int) (p2:Option Addr) (s3:Bool) (x3 y3:Int) (p3:Option Addr) (k:Kd) (w:World) (hk:qjf s1 x1 y1 p1 s2 x2 y2 p2 s3 x3 y3 p3 k) :
  Calls prog 115 #[.agg #[.bool s1,.int .u64 x1,.int .u64 y1,.pointer p1,.bool s2,.int .u64 x2,.int .u64 y2,.pointer p2,.bool s3,.int .u64 x3,.int .u64 y3,.pointer p3]] w fun e w'=>∃ v,e=.returned v∧aq w' v k.me∧But [] w w':=by
 have HF:=af hk.2.1
 clear hk
 obtain⟨A,hA⟩:∃ A,A=w.alloc (.cells #[.bool s1,.int .u64 x1,.int .u64 y1,.pointer p1,.bool s2,.int .u64 x2,.int .u64 y2,.pointer p2,.bool s3,.int .u64 x3,.int .u64 y3,.pointer p3] 45):=⟨_,rfl⟩
 obtain⟨W,hW⟩:∃ W,W=A.alloc (.cells #[.bool false,.int .u64 0,.int .u64 0,.pointer none] 27):=⟨_,rfl⟩
 have sA:A.heap.size=w.heap.size+1:=by rw[hA];simp
 have bA:But [] w A:=by rw[hA];exact (But.refl _ _).alloc _
 have bW:But [] A W:=by rw[hW];exact (But.refl _ _).alloc _
 have xR:bh W (w.heap.size+1) 0:=by
  rw[hW,← sA]
  exact bh.new A false 0 0 none 0 27 (jb _)
 have XR:=af xR
 have BW:=af (bA.trans' bW)
 clear bA bW xR
 go_enter func115,ntmps115
 go_wp2
 have X1:=ae XR
 obtain⟨⟨t3,a3,b3,q3,P2,-⟩,z3⟩:=X1
 rw[hW,hA] at P2 z3
 rw[hW,hA] at BW
 obtain⟨V,hV⟩:∃ V,V=(w.alloc (.cells #[.bool s1,.int .u64 x1,.int .u64 y1,.pointer p1,.bool s2,.int .u64 x2,.int .u64 y2,.pointer p2,.bool s3,.int .u64 x3,.int .u64 y3,.pointer p3] 45)).alloc (.cells #[.bool s2,.int .u64 x2,.int .u64 y2,.pointer p2] 27):=⟨_,rfl⟩
 have bV:But [] w V:=by rw[hV];exact ((But.refl _ _).alloc _).alloc _
 rw[← hV]
 have m:P4 V (w.heap.size+1) s2 x2 y2 p2:=by
  have h:=bh.new (w.alloc (.cells #[.bool s1,.int .u64 x1,.int .u64 y1,.pointer p1,.bool s2,.int .u64 x2,.int .u64 y2,.pointer p2,.bool s3,.int .u64 x3,.int .u64 y3,.pointer p3] 45)) s2 x2 y2 p2 _ 27 (ae HF _)
  rw[hV]
  rw[hA] at sA
  rw[← sA]
  exact⟨by simp,by simp,by simp,by simp⟩
 obtain⟨m0,m1,m2,m3⟩:=m
 exact bodyPost_ret (v:=.agg #[.bool s2,.int .u64 x2,.int .u64 y2,.pointer p2]) (by simp[results,results115,go_sem,m0,m1,m2,m3]) rfl ⟨_,rfl,ae HF V,bV⟩
theorem qba (s1:Bool) (x1 y1:Int) (p1:Option Addr) (s2:Bool) (x2 y2:Int) (p2:Option Addr) (s3:Bool) (x3 y3:Int) (p3:Option Addr) (k:Kd) (w:World) (hk:qjf s1 x1 y1 p1 s2 x2 y2 p2 s3 x3 y3 p3 k) :
  Calls prog 118 #[.agg #[.bool s1,.int .u64 x1,.int .u64 y1,.pointer p1,.bool s2,.int .u64 x2,.int .u64 y2,.pointer p2,.bool s3,.int .u64 x3,.int .u64 y3,.pointer p3]] w fun e w'=>∃ v,e=.returned v∧aq w' v k.sp∧But [] w w':=by
 have HF:=af hk.2.2
 clear hk
 obtain⟨A,hA⟩:∃ A,A=w.alloc (.cells #[.bool s1,.int .u64 x1,.int .u64 y1,.pointer p1,.bool s2,.int .u64 x2,.int .u64 y2,.pointer p2,.bool s3,.int .u64 x3,.int .u64 y3,.pointer p3] 45):=⟨_,rfl⟩
 obtain⟨W,hW⟩:∃ W,W=A.alloc (.cells #[.bool false,.int .u64 0,.int .u64 0,.pointer none] 27):=⟨_,rfl⟩
 have sA:A.heap.size=w.heap.size+1:=by rw[hA];simp
 have bA:But [] w A:=by rw[hA];exact (But.refl _ _).alloc _
 have bW:But [] A W:=by rw[hW];exact (But.refl _ _).alloc _
 have xR:bh W (w.heap.size+1) 0:=by
  rw[hW,← sA]
  exact bh.new A false 0 0 none 0 27 (jb _)
 have XR:=af xR
 have BW:=af (bA.trans' bW)
 clear bA bW xR
 go_enter func118,ntmps118
 go_wp2
 have X1:=ae XR
 obtain⟨⟨t3,a3,b3,q3,P2,-⟩,z3⟩:=X1
 rw[hW,hA] at P2 z3
 rw[hW,hA] at BW
 obtain⟨V,hV⟩:∃ V,V=(w.alloc (.cells #[.bool s1,.int .u64 x1,.int .u64 y1,.pointer p1,.bool s2,.int .u64 x2,.int .u64 y2,.pointer p2,.bool s3,.int .u64 x3,.int .u64 y3,.pointer p3] 45)).alloc (.cells #[.bool s3,.int .u64 x3,.int .u64 y3,.pointer p3] 27):=⟨_,rfl⟩
 have bV:But [] w V:=by rw[hV];exact ((But.refl _ _).alloc _).alloc _
 rw[← hV]
 have m:P4 V (w.heap.size+1) s3 x3 y3 p3:=by
  have h:=bh.new (w.alloc (.cells #[.bool s1,.int .u64 x1,.int .u64 y1,.pointer p1,.bool s2,.int .u64 x2,.int .u64 y2,.pointer p2,.bool s3,.int .u64 x3,.int .u64 y3,.pointer p3] 45)) s3 x3 y3 p3 _ 27 (ae HF _)
  rw[hV]
  rw[hA] at sA
  rw[← sA]
  exact⟨by simp,by simp,by simp,by simp⟩
 obtain⟨m0,m1,m2,m3⟩:=m
 exact bodyPost_ret (v:=.agg #[.bool s3,.int .u64 x3,.int .u64 y3,.pointer p3]) (by simp[results,results118,go_sem,m0,m1,m2,m3]) rfl ⟨_,rfl,ae HF V,bV⟩
theorem qaz (s1:Bool) (x1 y1:Int) (p1:Option Addr) (s2:Bool) (x2 y2:Int) (p2:Option Addr) (s3:Bool) (x3 y3:Int) (p3:Option Addr) (k:Kd) (w:World) (hk:qjf s1 x1 y1 p1 s2 x2 y2 p2 s3 x3 y3 p3 k) (lk:Len k.me 100) :
  Calls prog 116 #[.agg #[.bool s1,.int .u64 x1,.int .u64 y1,.pointer p1,.bool s2,.int .u64 x2,.int .u64 y2,.pointer p2,.bool s3,.int .u64 x3,.int .u64 y3,.pointer p3]] w fun e w'=>∃ v,e=.returned v∧aq w' v (k.me*k.me)∧But [] w w':=by
 have SQ:=af (fun W=>zax _ k.me W (hk.2.1 W) (lk.mono (by omega)))
 generalize k.me*k.me=ff at *
 clear hk lk
 obtain⟨A,hA⟩:∃ A,A=w.alloc (.cells #[.bool s1,.int .u64 x1,.int .u64 y1,.pointer p1,.bool s2,.int .u64 x2,.int .u64 y2,.pointer p2,.bool s3,.int .u64 x3,.int .u64 y3,.pointer p3] 45):=⟨_,rfl⟩
 obtain⟨W,hW⟩:∃ W,W=A.alloc (.cells #[.bool false,.int .u64 0,.int .u64 0,.pointer none] 27):=⟨_,rfl⟩
 have sA:A.heap.size=w.heap.size+1:=by rw[hA];simp
 have bA:But [] w A:=by rw[hA];exact (But.refl _ _).alloc _
 have bW:But [] A W:=by rw[hW];exact (But.refl _ _).alloc _
 have xR:bh W (w.heap.size+1) 0:=by
  rw[hW,← sA]
  exact bh.new A false 0 0 none 0 27 (jb _)
 have XR:=af xR
 have BW:=af (bA.trans' bW)
 clear bA bW xR
 go_enter func116,ntmps116
 go_wp2_with fail
 rw[← hA,← hW]
 refine (ae SQ _).mono ?_
 rintro e w1 ⟨v1,rfl,hf1,hb1⟩
 have B1:=af ((ae BW).trans' hb1)
 have X1:=af ((ae XR).but hb1)
 obtain⟨x5,y5,p5,rfl,-⟩:=id hf1.agg
 generalize decide (ff.num<0)=s5 at *
 have HF1:=af hf1
 clear hb1 hf1 BW XR SQ hA hW sA
 generalize hg1:w.heap.size+1=g1 at *
 obtain⟨⟨t3,a3,b3,q3,⟨c0,c1,c2,c3⟩,-⟩,z3⟩:=ae X1
 have P2:Hid (P4 w1 g1 t3 a3 b3 q3):=⟨c0,c1,c2,c3⟩
 go_wp2
 have hP:=ay w1 g1 s5 x5 y5 p5
 obtain⟨m0,m1,m2,m3⟩:=jl w1 g1 s5 x5 y5 p5 (ae P2)
 have hF:But [] w (zy w1 g1 s5 x5 y5 p5):=(ae B1).trans hP (fun x hx=>by simp at hx;subst hx;exact .inr (by omega))
 have hff:=(ae HF1).over ((ae P2)).1 hP
 change bodyPost _ _ _ _ _ (zy w1 g1 s5 x5 y5 p5)
 generalize zy w1 g1 s5 x5 y5 p5=F at *
 exact bodyPost_ret (v:=.agg #[.bool s5,.int .u64 x5,.int .u64 y5,.pointer p5]) (by simp[results,results116,go_sem,m0,m1,m2,m3]) rfl ⟨_,rfl,hff,hF⟩
def mkR (ks:List Kd) (g:Kd→Rat):Nat→Rat:=sgR (fun j=>(ze ks j).ch*g (ze ks j))
theorem zcv (ks:List Kd) (g:Kd→Rat) (n c:Nat) (h1:∀ k,k<n→Len (ze ks k).ch 1) (h2:∀ k,k<n→Len (g (ze ks k)) c):∀ k,k≤n→Len (mkR ks g k) (k*(c+2)+1)
 | 0,_=>zbw _ (by omega)
 | k+1,hk=>by
  have ih:=zcv ks g n c h1 h2 k (by omega)
  show Len (mkR ks g k+(ze ks k).ch*g (ze ks k)) _
  exact mi ih (jd (h1 k (by omega)) (h2 k (by omega)) (c+1) (by omega)) _ (by rw[Nat.succ_mul];omega)
theorem zez (q:Option Addr) (n cap:Nat) (ks:List Kd) (g:Kd→Rat) (c:Nat) (fo:FuncId) (w:World) (hv:nu w (.slice q n cap) ks) (hN:n=ks.length) (hn:n≤40) (hc:c≤10) (h1:∀ k,k<n→Len (ze ks k).ch 1) (h2:∀ k,k<n→Len (g (ze ks k)) c)
  (EN:∀ args W,(callFunc fo args).run prog W=.ok (.enter fo args) W)
  (OF:∀ s1 x1 y1 p1 s2 x2 y2 p2 s3 x3 y3 p3 k W,k<n→qjf s1 x1 y1 p1 s2 x2 y2 p2 s3 x3 y3 p3 (ze ks k)→Calls prog fo #[.agg #[.bool s1,.int .u64 x1,.int .u64 y1,.pointer p1,.bool s2,.int .u64 x2,.int .u64 y2,.pointer p2,.bool s3,.int .u64 x3,.int .u64 y3,.pointer p3]] W fun e w'=>∃ v,e=.returned v∧aq w' v (g (ze ks k))∧But [] W w') :
  Calls prog 113 #[.slice q n cap,.func (.func fo) #[] #[]] w fun e w'=>∃ v,e=.returned v∧aq w' v (mkR ks g n)∧But [] w w':=by
 have HV:=af hv
 have HN:=af hN
 have HEN:=af EN
 have HOF:=af OF
 have LM:=af (zcv ks g n c h1 h2)
 have L1:=af h1
 have L2:=af h2
 clear hv hN EN OF h1 h2
 obtain⟨A,hA⟩:∃ A,A=w.alloc (.cells #[.bool false,.int .u64 0,.int .u64 0,.pointer none] 27):=⟨_,rfl⟩
 obtain⟨W,hW⟩:∃ W,W=A.alloc (.cells #[.bool false,.int .u64 0,.int .u64 0,.pointer none] 27):=⟨_,rfl⟩
 have sA:A.heap.size=w.heap.size+1:=by rw[hA];simp
 have bA:But [] w A:=by rw[hA];exact (But.refl _ _).alloc _
 have bW:But [] A W:=by rw[hW];exact (But.refl _ _).alloc _
 have x2:bh W w.heap.size 0:=by
  have h:=bh.new w false 0 0 none 0 27 (jb _)
  rw[← hA] at h
  exact h.but bW
 have x3:bh W (w.heap.size+1) 0:=by
  rw[hW,← sA]
  exact bh.new A false 0 0 none 0 27 (jb _)
 have X2:=af x2
 have X3:=af x3
 have BW:=af (bA.trans' bW)
 clear x2 x3 bA bW
 go_enter func113,ntmps113
 go_wp2
 rw[← hA,← hW]
 clear hA hW sA
 generalize hg3:w.heap.size+1=g5 at *
 generalize hg2:w.heap.size=g4 at *
 go_loopw [10] (fun iv wr=>∃ k:Nat,k≤n∧iv=.int .i64 (k:Int)∧Hid (bh wr g5 (mkR ks g k)∧bh wr g4 0∧But [] w wr)) (fun iv _=>n-(intOf iv).toNat)
 case atStart=>exact⟨0,Nat.zero_le _,rfl,ae X3,ae X2,ae BW⟩
 case round =>
  obtain⟨k,hk,rfl,HI⟩:=hrel
  rename World=>wr
  clear X2 X3 BW
  by_cases hlt:k<n
  ·have hkk:ks[k]? = some (ze ks k):=by
    unfold ze
    rw[List.getElem?_eq_getElem (by have:=ae HN;omega)];rfl
   obtain⟨b,off,s1,x1,y1,p1,s2,x2,y2,p2,s3,x3,y3,p3,rfl,kc,hok⟩:=((ae HV).but (ae HI).2.2).get k hlt _ hkk
   have HOK:Hid (qjf s1 x1 y1 p1 s2 x2 y2 p2 s3 x3 y3 p3 (ze ks k)):=hok
   have r0:wr.cell? ⟨b,off+k*12,none⟩=some (.bool s1):=kc.1.1
   have r1:wr.cell? ⟨b,off+k*12+1,none⟩=some (.int .u64 x1):=kc.1.2.1
   have r2:wr.cell? ⟨b,off+k*12+2,none⟩=some (.int .u64 y1):=kc.1.2.2.1
   have r3:wr.cell? ⟨b,off+k*12+3,none⟩=some (.pointer p1):=kc.1.2.2.2
   have r4:wr.cell? ⟨b,off+k*12+4,none⟩=some (.bool s2):=kc.2.1.1
   have r5:wr.cell? ⟨b,off+k*12+5,none⟩=some (.int .u64 x2):=kc.2.1.2.1
   have r6:wr.cell? ⟨b,off+k*12+6,none⟩=some (.int .u64 y2):=kc.2.1.2.2.1
   have r7:wr.cell? ⟨b,off+k*12+7,none⟩=some (.pointer p2):=kc.2.1.2.2.2
   have r8:wr.cell? ⟨b,off+k*12+8,none⟩=some (.bool s3):=kc.2.2.1
   have r9:wr.cell? ⟨b,off+k*12+9,none⟩=some (.int .u64 x3):=kc.2.2.2.1
   have r10:wr.cell? ⟨b,off+k*12+10,none⟩=some (.int .u64 y3):=kc.2.2.2.2.1
   have r11:wr.cell? ⟨b,off+k*12+11,none⟩=some (.pointer p3):=kc.2.2.2.2.2
   clear kc hok hkk
   go_wp2
   have bA:But [] wr (wr.alloc (.cells #[.bool s1,.int .u64 x1,.int .u64 y1,.pointer p1,.bool s2,.int .u64 x2,.int .u64 y2,.pointer p2,.bool s3,.int .u64 x3,.int .u64 y3,.pointer p3] 45)):=(But.refl _ _).alloc _
   have kd:K12 (wr.alloc (.cells #[.bool s1,.int .u64 x1,.int .u64 y1,.pointer p1,.bool s2,.int .u64 x2,.int .u64 y2,.pointer p2,.bool s3,.int .u64 x3,.int .u64 y3,.pointer p3] 45)) wr.heap.size 0 s1 x1 y1 p1 s2 x2 y2 p2 s3 x3 y3 p3:=⟨⟨by simp,by simp,by simp,by simp⟩,⟨by simp,by simp,by simp,by simp⟩,⟨by simp,by simp,by simp,by simp⟩⟩
   have D5:=af ((ae HI).1.but bA)
   have D4:=af ((ae HI).2.1.but bA)
   have DB:=af ((ae HI).2.2.trans' bA)
   clear bA r0 r1 r2 r3 r4 r5 r6 r7 r8 r9 r10 r11 HI
   generalize wr.heap.size=g7 at *
   generalize wr.alloc (.cells #[.bool s1,.int .u64 x1,.int .u64 y1,.pointer p1,.bool s2,.int .u64 x2,.int .u64 y2,.pointer p2,.bool s3,.int .u64 x3,.int .u64 y3,.pointer p3] 45)=U at *
   obtain⟨⟨t5,a5,b5,q5,c5,hf5⟩,z5⟩:=ae D5
   have l1:=ae L1 k hlt
   have l2:=ae L2 k hlt
   have hkc:k*(c+2)≤40*12:=Nat.mul_le_mul (by omega) (by omega)
   have lm:=(ae LM k (by omega)).mono (show k*(c+2)+1≤1000 by omega)
   refine zto 5 _ _ U g7 t5 a5 b5 q5 s1 x1 y1 p1 s2 x2 y2 p2 s3 x3 y3 p3 fo _ _ _ g5 (by simp) (by simp[Act.eval]) c5 z5 (by simp[Act.eval]) (by simp[Act.eval]) c5 kd (ae HEN) (fun w' hb=>ae HOF s1 x1 y1 p1 s2 x2 y2 p2 s3 x3 y3 p3 k w' hlt (ae HOK)) (fun w' hb v' hv'=>dh _ _ _ _ w' ((ae HOK).1 w') hv' (l1.mono (by omega)) (l2.mono (by omega))) (fun w' hb v' hv'=>zaa _ _ _ _ w' (hf5.but hb) hv' (lm.mono (by omega)) ((jd l1 l2 (c+1) (by omega)).mono (by omega))) ?_
   intro w7 v5 v6 s7 x7 y7 p7 hb7 hfz
   simp only[bk,List.foldl_cons,List.foldl_nil,Act.put,List.setIfInBounds_toArray,List.set_cons_zero,List.set_cons_succ]
   change aq w7 _ (mkR ks g (k+1)) at hfz
   have hP:=ay w7 g5 s7 x7 y7 p7
   have J5:=af (((ae D5).but hb7).put hfz)
   have J4:=af (((ae D4).but hb7).beside hP (by simp;omega) (fun g hg=>by simp at hg;subst hg;exact ((ae D5).but hb7).bool))
   have JB:=af (((ae DB).trans' hb7).trans hP (fun x hx=>by simp at hx;subst hx;exact .inr (by omega)))
   generalize zy w7 g5 s7 x7 y7 p7=V7 at *
   clear hP hfz hb7 D5 D4 DB c5 hf5 z5 lm l1 l2 hkc kd HOK
   go_wp2
   exact⟨⟨k+1,by omega,by go_num,ae J5,ae J4,ae JB⟩,by simp[intOf];omega⟩
  ·obtain rfl:k=n:=by omega
   obtain⟨⟨⟨t6,a6,b6,q6,⟨d0,d1,d2,d3⟩,hf6⟩,z6⟩,⟨⟨t2,a2,b2,q2,⟨c0,c1,c2,c3⟩,-⟩,z2⟩,hbw⟩:=ae HI
   have HF6:=af hf6
   have HBW:=af hbw
   have P2:Hid (P4 wr g4 t2 a2 b2 q2):=⟨c0,c1,c2,c3⟩
   clear HI hf6 hbw
   go_wp2
   have hP:=ay wr g4 t6 a6 b6 q6
   obtain⟨m0,m1,m2,m3⟩:=jl wr g4 t6 a6 b6 q6 (ae P2)
   have hF:But [] w (zy wr g4 t6 a6 b6 q6):=(ae HBW).trans hP (fun x hx=>by simp at hx;subst hx;exact .inr (by omega))
   have hff:=(ae HF6).over ((ae P2)).1 hP
   change bodyPost _ _ _ _ _ (zy wr g4 t6 a6 b6 q6)
   generalize zy wr g4 t6 a6 b6 q6=F at *
   exact bodyPost_ret (v:=.agg #[.bool t6,.int .u64 a6,.int .u64 b6,.pointer q6]) (by simp[results,results113,go_sem,m0,m1,m2,m3]) rfl ⟨_,rfl,hff,hF⟩
theorem zah (f:Nat→Rat) (c:Rat) (n:Nat):sgR (fun k=>f k*c) n=sgR f n*c:=by
 rw[Rat.mul_comm,← zvq]
 exact yo _ _ n (fun k _=>Rat.mul_comm _ _)
theorem var_eq (c m:Nat→Rat) (n:Nat) (h1:sgR c n=1):sgR (fun j=>c j*(m j*m j)) n-sgR (fun j=>c j*m j) n*sgR (fun j=>c j*m j) n=sgR (fun j=>c j*((m j-sgR (fun j=>c j*m j) n)*(m j-sgR (fun j=>c j*m j) n))) n:=by
 generalize hM:sgR (fun j=>c j*m j) n=M at *
 have e:sgR (fun j=>c j*((m j-M)*(m j-M))) n=sgR (fun j=>(c j*(m j*m j)-(c j*m j)*(2*M))+c j*(M*M)) n:=yo _ _ n (fun j _=>by grind)
 rw[e,zpk,zku,zah (fun j=>c j*m j),zah c,hM,h1]
 grind
theorem sq_nonneg (x:Rat):0≤x*x:=by
 rcases (Rat.le_total:(0:Rat)≤x∨x≤0) with h | h
 ·exact Rat.mul_nonneg h h
 ·have:=Rat.mul_nonneg (show 0≤-x by grind) (show 0≤-x by grind)
  grind
theorem zka (c m:Nat→Rat) (n:Nat) (hc:∀ j,j<n→0≤c j) (h1:sgR c n=1):0≤sgR (fun j=>c j*(m j*m j)) n-sgR (fun j=>c j*m j) n*sgR (fun j=>c j*m j) n:=by
 rw[var_eq c m n h1]
 exact zep _ n (fun j hj=>Rat.mul_nonneg (hc j hj) (sq_nonneg _))
def zws (ks:List Kd):Int:=if ks.length<1 then 4 else if ks.any (fun k=>decide (k.ch.num<0) || decide (k.sp.num<0)) then 1 else if mkR ks (fun _=>((1:Int):Rat)) ks.length=((1:Int):Rat) then 0 else 10
theorem zry {ks:List Kd} {k:Nat} (h:k<ks.length):ze ks k ∈ ks:=by
 unfold ze
 rw[List.getElem?_eq_getElem h]
 exact List.getElem_mem h
theorem zkt {z:Int} (h:z<0):z.sign=-1:=Int.sign_eq_neg_one_of_neg h
theorem zji {z:Int} (h:¬ z<0):0≤z.sign:=by
 rcases Int.lt_trichotomy z 0 with h' | h' | h'
 ·omega
 ·rw[h'];decide
 ·rw[Int.sign_eq_one_of_pos h'];decide
theorem zov:∀ args W,(callFunc 114 args).run prog W=.ok (.enter 114 args) W:=enters_of func114 (by kernel_rfl) rfl
theorem zxc:∀ args W,(callFunc 115 args).run prog W=.ok (.enter 115 args) W:=enters_of func115 (by kernel_rfl) rfl
theorem zse:∀ args W,(callFunc 116 args).run prog W=.ok (.enter 116 args) W:=enters_of func116 (by kernel_rfl) rfl
theorem zsf:∀ args W,(callFunc 118 args).run prog W=.ok (.enter 118 args) W:=enters_of func118 (by kernel_rfl) rfl
theorem zjb (q:Option Addr) (n cap:Nat) (ks:List Kd) (yr:Int) (w:World) (hv:nu w (.slice q n cap) ks) (hN:n=ks.length) (hn:n≤40) (hy1:1≤yr) (hy2:yr≤120) (lc:∀ k,k<n→Len (ze ks k).ch 1) (_lm:∀ k,k<n→Len (ze ks k).me 1) (_lp:∀ k,k<n→Len (ze ks k).sp 1) :
  Calls prog 52 #[.slice q n cap,.int .i64 yr] w fun e w'=>e=.returned (zmf (zws ks))∧But [] w w':=by
 have HV:=af hv
 have HN:=af hN
 have ME:=af (fun W (h:But [] w W)=>zez q n cap ks (fun _=>((1:Int):Rat)) 1 114 W (hv.but h) hN hn (by omega) lc (fun k hk=>kr 1 (by decide)) zov (fun s1 x1 y1 p1 s2 x2 y2 p2 s3 x3 y3 p3 k W hk hok=>qbb s1 x1 y1 p1 s2 x2 y2 p2 s3 x3 y3 p3 _ W hok))
 obtain⟨SM,hSM⟩:∃ SM,SM=mkR ks (fun _=>((1:Int):Rat)) n:=⟨_,rfl⟩
 have lS:Len SM 200:=by
  rw[hSM]
  refine (zcv ks (fun _=>((1:Int):Rat)) n 1 lc (fun k hk=>kr 1 (by decide)) n (Nat.le_refl _)).mono ?_
  omega
 rw[← hSM] at ME
 obtain⟨ce,hce⟩:∃ ce,ce=zws ks:=⟨_,rfl⟩
 rw[← hce]
 have HCE:Hid (ce=if n<1 then 4 else if ks.any (fun k=>decide (k.ch.num<0) || decide (k.sp.num<0)) then 1 else if SM=((1:Int):Rat) then 0 else 10):=by
  show _=_
  rw[hce,hSM,hN];rfl
 clear hce hSM hv hN lc _lm _lp
 go_enter func52,ntmps52
 by_cases h0:n<1
 ·obtain rfl:n=0:=by omega
  have e4:ce=4:=by rw[ae HCE,if_pos (by omega)]
  subst e4
  go_wp2
  go_ret
  exact⟨rfl,But.refl _ _⟩
 ·go_wp2
  go_loopw [18] (fun iv wr=>∃ k:Nat,k≤n∧iv=.int .i64 (k:Int)∧Hid ((∀ j,j<k→¬ (ze ks j).ch.num<0∧¬ (ze ks j).sp.num<0)∧But [] w wr)) (fun iv _=>n-(intOf iv).toNat)
  case atStart=>exact⟨0,Nat.zero_le _,rfl,fun j hj=>absurd hj (by omega),But.refl _ _⟩
  case round =>
   obtain⟨k,hk,rfl,HI⟩:=hrel
   rename World=>wr
   by_cases hlt:k<n
   ·have hkl:k<ks.length:=by have:=ae HN;omega
    have hkk:ks[k]? = some (ze ks k):=by
     unfold ze
     rw[List.getElem?_eq_getElem hkl];rfl
    obtain⟨b,off,s1,x1,y1,p1,s2,x2,y2,p2,s3,x3,y3,p3,rfl,kc,hok⟩:=((ae HV).but (ae HI).2).get k hlt _ hkk
    have r0:wr.cell? ⟨b,off+k*12,none⟩=some (.bool s1):=kc.1.1
    have r1:wr.cell? ⟨b,off+k*12+1,none⟩=some (.int .u64 x1):=kc.1.2.1
    have r2:wr.cell? ⟨b,off+k*12+2,none⟩=some (.int .u64 y1):=kc.1.2.2.1
    have r3:wr.cell? ⟨b,off+k*12+3,none⟩=some (.pointer p1):=kc.1.2.2.2
    have r4:wr.cell? ⟨b,off+k*12+4,none⟩=some (.bool s2):=kc.2.1.1
    have r5:wr.cell? ⟨b,off+k*12+5,none⟩=some (.int .u64 x2):=kc.2.1.2.1
    have r6:wr.cell? ⟨b,off+k*12+6,none⟩=some (.int .u64 y2):=kc.2.1.2.2.1
    have r7:wr.cell? ⟨b,off+k*12+7,none⟩=some (.pointer p2):=kc.2.1.2.2.2
    have r8:wr.cell? ⟨b,off+k*12+8,none⟩=some (.bool s3):=kc.2.2.1
    have r9:wr.cell? ⟨b,off+k*12+9,none⟩=some (.int .u64 x3):=kc.2.2.2.1
    have r10:wr.cell? ⟨b,off+k*12+10,none⟩=some (.int .u64 y3):=kc.2.2.2.2.1
    have r11:wr.cell? ⟨b,off+k*12+11,none⟩=some (.pointer p3):=kc.2.2.2.2.2
    have SC:=af (fun W=>j6 _ (ze ks k).ch W (hok.1 W))
    have SP:=af (fun W=>j6 _ (ze ks k).sp W (hok.2.2 W))
    have HB:=af ((ae HI).2.trans' ((But.refl _ _).alloc (.cells #[.bool s1,.int .u64 x1,.int .u64 y1,.pointer p1,.bool s2,.int .u64 x2,.int .u64 y2,.pointer p2,.bool s3,.int .u64 x3,.int .u64 y3,.pointer p3] 45)))
    have KB:Hid (K12 (wr.alloc (.cells #[.bool s1,.int .u64 x1,.int .u64 y1,.pointer p1,.bool s2,.int .u64 x2,.int .u64 y2,.pointer p2,.bool s3,.int .u64 x3,.int .u64 y3,.pointer p3] 45)) wr.heap.size 0 s1 x1 y1 p1 s2 x2 y2 p2 s3 x3 y3 p3):=⟨⟨by simp,by simp,by simp,by simp⟩,⟨by simp,by simp,by simp,by simp⟩,⟨by simp,by simp,by simp,by simp⟩⟩
    have hbad:(ze ks k).ch.num<0∨(ze ks k).sp.num<0→ce=1:=fun h=>by
     rw[ae HCE,if_neg h0,if_pos (List.any_eq_true.2 ⟨_,zry hkl,by
      rcases h with h | h
      ·rw[decide_eq_true h];rfl
      ·rw[decide_eq_true h,Bool.or_true]⟩)]
    have HBAD:=af hbad
    clear kc hok hkk hbad
    by_cases hc:(ze ks k).ch.num<0
    ·obtain rfl:=ae HBAD (.inl hc)
     rw[zkt hc] at SC
     go_wp2_with fail
     refine (ae SC _).mono ?_
     rintro e w1 ⟨rfl,hb1⟩
     have B1:=af ((ae HB).trans' hb1)
     clear hb1 r0 r1 r2 r3 r4 r5 r6 r7 r8 r9 r10 r11
     go_wp2
     go_ret
     exact⟨rfl,ae B1⟩
    ·have hsc:=zji hc
     obtain⟨sc,hsc2⟩:∃ sc,sc=(ze ks k).ch.num.sign:=⟨_,rfl⟩
     rw[← hsc2] at SC hsc
     clear hsc2
     go_wp2_with fail
     refine (ae SC _).mono ?_
     rintro e w1 ⟨rfl,hb1⟩
     have B1:=af ((ae HB).trans' hb1)
     have K1:=af ((ae KB).but hb1 (by simp))
     clear hb1 r0 r1 r2 r3 r4 r5 r6 r7 r8 r9 r10 r11 HB KB SC
     generalize wr.heap.size=g6 at *
     obtain⟨-,-,⟨k8,k9,k10,k11⟩⟩:=ae K1
     simp only[Nat.zero_add,Nat.reduceAdd] at k8 k9 k10 k11
     by_cases hp:(ze ks k).sp.num<0
     ·obtain rfl:=ae HBAD (.inr hp)
      rw[zkt hp] at SP
      go_wp2_with fail
      refine (ae SP _).mono ?_
      rintro e w2 ⟨rfl,hb2⟩
      have B2:=af ((ae B1).trans' hb2)
      clear hb2
      go_wp2
      go_ret
      exact⟨rfl,ae B2⟩
     ·have hsp:=zji hp
      obtain⟨sp,hsp2⟩:∃ sp,sp=(ze ks k).sp.num.sign:=⟨_,rfl⟩
      rw[← hsp2] at SP hsp
      clear hsp2
      go_wp2_with fail
      refine (ae SP _).mono ?_
      rintro e w2 ⟨rfl,hb2⟩
      have B2:=af ((ae B1).trans' hb2)
      have HC:=af hc
      have HP:=af hp
      clear hb2 B1 K1 k8 k9 k10 k11 hc hp
      go_wp2
      refine⟨⟨k+1,by omega,by go_num,fun j hj=>?_,ae B2⟩,by simp[intOf];omega⟩
      by_cases e:j=k
      ·subst e
       have h1:=ae HC
       have h2:=ae HP
       exact⟨by omega,by omega⟩
      ·have:=(ae HI).1 j (by omega)
       exact⟨by omega,by omega⟩
   ·obtain rfl:k=n:=by omega
    obtain⟨hall,hbw⟩:=ae HI
    have hno:ks.any (fun k=>decide (k.ch.num<0) || decide (k.sp.num<0))=false:=by
     rw[List.any_eq_false]
     intro z hz
     obtain⟨j,hj,rfl⟩:=List.mem_iff_getElem.1 hz
     have h:=hall j (by have:=ae HN;omega)
     have e:ze ks j=ks[j]:=by
      unfold ze
      rw[List.getElem?_eq_getElem hj];rfl
     rw[e] at h
     rw[decide_eq_false h.1,decide_eq_false h.2]
     decide
    have hce2:ce=if SM=((1:Int):Rat) then 0 else 10:=by rw[ae HCE,if_neg h0,hno];simp
    have HC2:=af hce2
    have HBW:=af hbw
    obtain⟨ws,wx,FW,CW⟩:=zel 1 (by omega) (by omega)
    have HFW:=af FW
    have HCW:=af CW
    obtain⟨r,hr⟩:∃ r,r=zhh (SM.num*((((1:Int):Rat)).den:Int)) ((((1:Int):Rat)).num*(SM.den:Int)):=⟨_,rfl⟩
    have h3:=(zsj SM ((1:Int):Rat) r hr).2.2
    have H3:=af h3
    have HR:=af hr
    clear hall hbw hno hce2 HI FW CW h3 hr
    go_wp2_with fail
    refine (ae ME _ (ae HBW)).mono ?_
    rintro e w1 ⟨v1,rfl,hf1,hb1⟩
    have B1:=af ((ae HBW).trans' hb1)
    obtain⟨x1,y1,p1,rfl,-⟩:=id hf1.agg
    generalize decide (SM.num<0)=s1 at *
    have F1:=af hf1
    clear hb1 hf1 ME
    go_wp2_with fail
    refine (ae HCW _).mono ?_
    rintro e w2 ⟨rfl,hb2⟩
    have B2:=af ((ae B1).trans' hb2)
    have CM:=af (zot _ _ SM ((1:Int):Rat) w2 ((ae F1).but hb2) (ae HFW w2) (lS.mono (by omega)) ((kr 1 (by decide)).mono (by omega)) r (ae HR))
    clear hb2 B1 F1 HCW
    go_wp2_with fail
    refine (ae CM).mono ?_
    rintro e w3 ⟨rfl,hb3⟩
    have B3:=af ((ae B2).trans' hb3)
    clear hb3 B2 CM
    by_cases hr0:r=0
    ·have e0:ce=0:=by rw[ae HC2,if_pos ((ae H3).1 hr0)]
     subst e0
     subst hr0
     go_wp2
     go_ret
     exact⟨rfl,ae B3⟩
    ·have e0:ce=10:=by rw[ae HC2,if_neg (fun h=>hr0 ((ae H3).2 h))]
     subst e0
     go_wp2
     go_ret
     exact⟨rfl,ae B3⟩
theorem zuo (q:Option Addr) (n cap:Nat) (ks:List Kd) (yr:Int) (w:World) (hv:nu w (.slice q n cap) ks) (hN:n=ks.length) (hn:n≤40) (hy1:1≤yr) (hy2:yr≤120) (lc:∀ k,k<n→Len (ze ks k).ch 1) (lm:∀ k,k<n→Len (ze ks k).me 1) (lp:∀ k,k<n→Len (ze ks k).sp 1) :
  Calls prog 53 #[.slice q n cap,.int .i64 yr] w fun e w'=>∃ v,e=.returned v∧zci (mkR ks (fun k=>k.me) n) (mkR ks (fun k=>k.me*k.me) n-mkR ks (fun k=>k.me) n*mkR ks (fun k=>k.me) n) (mkR ks (fun k=>k.sp) n/((yr:Int):Rat)) w' v∧But [] w w':=by
 have M1:=af (fun W (h:But [] w W)=>zez q n cap ks (fun k=>k.me) 1 115 W (hv.but h) hN hn (by omega) lc lm zxc (fun s1 x1 y1 p1 s2 x2 y2 p2 s3 x3 y3 p3 k W hk hok=>qiq s1 x1 y1 p1 s2 x2 y2 p2 s3 x3 y3 p3 _ W hok))
 have M2:=af (fun W (h:But [] w W)=>zez q n cap ks (fun k=>k.me*k.me) 2 116 W (hv.but h) hN hn (by omega) lc (fun k hk=>jd (lm k hk) (lm k hk) 2 (by omega)) zse (fun s1 x1 y1 p1 s2 x2 y2 p2 s3 x3 y3 p3 k W hk hok=>qaz s1 x1 y1 p1 s2 x2 y2 p2 s3 x3 y3 p3 _ W hok ((lm k hk).mono (by omega))))
 have M3:=af (fun W (h:But [] w W)=>zez q n cap ks (fun k=>k.sp) 1 118 W (hv.but h) hN hn (by omega) lc lp zsf (fun s1 x1 y1 p1 s2 x2 y2 p2 s3 x3 y3 p3 k W hk hok=>qba s1 x1 y1 p1 s2 x2 y2 p2 s3 x3 y3 p3 _ W hok))
 have l1:Len (mkR ks (fun k=>k.me) n) 500:=(zcv ks (fun k=>k.me) n 1 lc lm n (Nat.le_refl _)).mono (by omega)
 have l2:Len (mkR ks (fun k=>k.me*k.me) n) 500:=(zcv ks (fun k=>k.me*k.me) n 2 lc (fun k hk=>jd (lm k hk) (lm k hk) 2 (by omega)) n (Nat.le_refl _)).mono (by omega)
 have l3:Len (mkR ks (fun k=>k.sp) n) 500:=(zcv ks (fun k=>k.sp) n 1 lc lp n (Nat.le_refl _)).mono (by omega)
 generalize mkR ks (fun k=>k.me) n=A1 at *
 generalize mkR ks (fun k=>k.me*k.me) n=A2 at *
 generalize mkR ks (fun k=>k.sp) n=A3 at *
 have x4:xg (w.alloc (.cells #[.bool false,.int .u64 0,.int .u64 0,.pointer none,.bool false,.int .u64 0,.int .u64 0,.pointer none,.bool false,.int .u64 0,.int .u64 0,.pointer none] 112)) w.heap.size [.bool false,.int .u64 0,.int .u64 0,.pointer none,.bool false,.int .u64 0,.int .u64 0,.pointer none,.bool false,.int .u64 0,.int .u64 0,.pointer none]:=xg.new w _ _
 have bA:But [] w (w.alloc (.cells #[.bool false,.int .u64 0,.int .u64 0,.pointer none,.bool false,.int .u64 0,.int .u64 0,.pointer none,.bool false,.int .u64 0,.int .u64 0,.pointer none] 112)):=(But.refl _ _).alloc _
 have X4:=af x4
 have BA:=af bA
 have Q2:Hid (w.heap.size≤w.heap.size):=Nat.le_refl _
 clear x4 bA hv lc lm lp hN
 go_enter func53,ntmps53
 go_wp2_with fail
 refine (ae M1 _ (ae BA)).mono ?_
 rintro e w1 ⟨v1,rfl,hf1,hb1⟩
 obtain⟨x1,y1,p1,rfl,-⟩:=id hf1.agg
 generalize decide (A1.num<0)=s1 at *
 have bs1:=hb1.trans' ((But.refl _ _).alloc (.cells #[.bool s1,.int .u64 x1,.int .u64 y1,.pointer p1] 27))
 have B1:=af ((ae BA).trans' bs1)
 have X41:=af ((ae X4).but bs1 (by simp) (by simp))
 have Y1:=af (bh.new w1 s1 x1 y1 p1 _ 27 hf1)
 clear hb1 hf1 bs1 X4 BA M1
 go_wp2_with fail
 generalize w1.heap.size=g5 at *
 generalize w1.alloc (.cells #[.bool s1,.int .u64 x1,.int .u64 y1,.pointer p1] 27)=V1 at *
 refine (ae M2 _ (ae B1)).mono ?_
 rintro e w2 ⟨v2,rfl,hf2,hb2⟩
 obtain⟨x2,y2,p2,rfl,-⟩:=id hf2.agg
 generalize decide (A2.num<0)=s2 at *
 have bs2:=hb2.trans' ((But.refl _ _).alloc (.cells #[.bool s2,.int .u64 x2,.int .u64 y2,.pointer p2] 27))
 have B2:=af ((ae B1).trans' bs2)
 have X42:=af ((ae X41).but bs2 (by simp) (by simp))
 have Y12:=af ((ae Y1).but bs2)
 have Y2:=af (bh.new w2 s2 x2 y2 p2 _ 27 hf2)
 clear hb2 hf2 bs2 X41 B1 Y1 M2
 go_wp2_with fail
 generalize w2.heap.size=g6 at *
 generalize w2.alloc (.cells #[.bool s2,.int .u64 x2,.int .u64 y2,.pointer p2] 27)=V2 at *
 refine (ae M3 _ (ae B2)).mono ?_
 rintro e w3 ⟨v3,rfl,hf3,hb3⟩
 obtain⟨x3,y3,p3,rfl,-⟩:=id hf3.agg
 generalize decide (A3.num<0)=s3 at *
 have bs3:=hb3.trans' ((But.refl _ _).alloc (.cells #[.bool s3,.int .u64 x3,.int .u64 y3,.pointer p3] 27))
 have B3:=af ((ae B2).trans' bs3)
 have X43:=af ((ae X42).but bs3 (by simp) (by simp))
 have Y13:=af ((ae Y12).but bs3)
 have Y23:=af ((ae Y2).but bs3)
 have Y3:=af (bh.new w3 s3 x3 y3 p3 _ 27 hf3)
 clear hb3 hf3 bs3 X42 B2 Y12 Y2 M3
 go_wp2
 generalize w3.heap.size=g7 at *
 generalize w3.alloc (.cells #[.bool s3,.int .u64 x3,.int .u64 y3,.pointer p3] 27)=V3 at *
 generalize hg4:w.heap.size=g4 at *
 obtain⟨⟨t1,a1,b1,q1,k1,f1⟩,-⟩:=ae Y13
 obtain⟨⟨t2,a2,b2,q2,k2,f2⟩,-⟩:=ae Y23
 obtain⟨⟨t3,a3,b3,q3,k3,f3⟩,-⟩:=ae Y3
 have lq:=jd l1 l1 1000 (by omega)
 refine zwm 4 _ _ V3 yr t1 a1 b1 q1 t2 a2 b2 q2 t3 a3 b3 q3 A1 A2 A3 g4 g5 g6 g7 (by simp) (by simp[Act.eval]) (ae X43) rfl (by simp[Act.eval]) (by simp[Act.eval]) (by simp[Act.eval]) (by simp[Act.eval]) k1 k2 k3 f1 (fun W hb=>zax _ _ W (f1.but hb) (l1.mono (by omega))) (fun W hb v hv=>zbh _ _ _ _ W (f2.but hb) hv (l2.mono (by omega)) (lq.mono (by omega))) (fun W hb=>zac _ _ yr W (f3.but hb) (l3.mono (by omega)) hy1 (by omega)) ?_
 intro w4 v0 v3' v4 v7 e1 e2 e3 e4 e5 e6 e7 e8 e9 e10 e11 e12 hb4 h1 h2 h3
 simp only[bk,List.foldl_cons,List.foldl_nil,Act.put,List.setIfInBounds_toArray,List.set_cons_zero,List.set_cons_succ]
 have X44:=(ae X43).but hb4 (by simp) (by simp)
 have hS:=br w4 g4 [.bool e1,.int .u64 e2,.int .u64 e3,.pointer e4,.bool e5,.int .u64 e6,.int .u64 e7,.pointer e8,.bool e9,.int .u64 e10,.int .u64 e11,.pointer e12] 0
 have P:=X44.put (us:=[.bool e1,.int .u64 e2,.int .u64 e3,.pointer e4,.bool e5,.int .u64 e6,.int .u64 e7,.pointer e8,.bool e9,.int .u64 e10,.int .u64 e11,.pointer e12]) rfl
 have m0:=P.cells 0 _ rfl
 have m1:=P.cells 1 _ rfl
 have m2:=P.cells 2 _ rfl
 have m3:=P.cells 3 _ rfl
 have m4:=P.cells 4 _ rfl
 have m5:=P.cells 5 _ rfl
 have m6:=P.cells 6 _ rfl
 have m7:=P.cells 7 _ rfl
 have m8:=P.cells 8 _ rfl
 have m9:=P.cells 9 _ rfl
 have m10:=P.cells 10 _ rfl
 have m11:=P.cells 11 _ rfl
 have c0:=X44.cells 0 _ rfl
 have hF:But [] w (w4.setCells g4 0 [.bool e1,.int .u64 e2,.int .u64 e3,.pointer e4,.bool e5,.int .u64 e6,.int .u64 e7,.pointer e8,.bool e9,.int .u64 e10,.int .u64 e11,.pointer e12]):=((ae B3).trans' hb4).trans hS (fun x hx=>by simp at hx;subst hx;exact .inr (by omega))
 have h1':=h1.over c0 hS
 have h2':=h2.over c0 hS
 have h3':=h3.over c0 hS
 generalize w4.setCells g4 0 [.bool e1,.int .u64 e2,.int .u64 e3,.pointer e4,.bool e5,.int .u64 e6,.int .u64 e7,.pointer e8,.bool e9,.int .u64 e10,.int .u64 e11,.pointer e12]=F at *
 clear P X44 hS c0 h1 h2 h3 hb4 k1 k2 k3 f1 f2 f3
 go_wp2
 exact bodyPost_ret (v:=.agg #[.bool e1,.int .u64 e2,.int .u64 e3,.pointer e4,.bool e5,.int .u64 e6,.int .u64 e7,.pointer e8,.bool e9,.int .u64 e10,.int .u64 e11,.pointer e12]) (by simp[results,results53,go_sem,m0,m1,m2,m3,m4,m5,m6,m7,m8,m9,m10,m11]) rfl ⟨_,rfl,⟨e1,e2,e3,e4,e5,e6,e7,e8,e9,e10,e11,e12,rfl,h1',h2',h3'⟩,hF⟩
def mx1 (ks:List Kd):Rat:=mkR ks (fun k=>k.me) ks.length
def mx2 (ks:List Kd):Rat:=mkR ks (fun k=>k.me*k.me) ks.length-mkR ks (fun k=>k.me) ks.length*mkR ks (fun k=>k.me) ks.length
def mx3 (ks:List Kd) (yr:Int):Rat:=mkR ks (fun k=>k.sp) ks.length/((yr:Int):Rat)
def amR (m1 m2 m3 b o:Rat):Rat:=(b-(((1:Int):Rat)-o)*m1)*(b-(((1:Int):Rat)-o)*m1)+(((1:Int):Rat)-o)*(((1:Int):Rat)-o)*m2+o*o*m3
theorem qdu (ks:List Kd) (yr:Int) (hn:ks.length≤40) (hy1:1≤yr) (hy2:yr≤120) (lc:∀ k,k<ks.length→Len (ze ks k).ch 1) (lm:∀ k,k<ks.length→Len (ze ks k).me 1) (lp:∀ k,k<ks.length→Len (ze ks k).sp 1):Len (mx1 ks) 500∧Len (mx2 ks) 1501∧Len (mx3 ks yr) 502:=by
 have l1:Len (mkR ks (fun k=>k.me) ks.length) 500:=(zcv ks (fun k=>k.me) ks.length 1 lc lm ks.length (Nat.le_refl _)).mono (by omega)
 have l2:Len (mkR ks (fun k=>k.me*k.me) ks.length) 500:=(zcv ks (fun k=>k.me*k.me) ks.length 2 lc (fun k hk=>jd (lm k hk) (lm k hk) 2 (by omega)) ks.length (Nat.le_refl _)).mono (by omega)
 have l3:Len (mkR ks (fun k=>k.sp) ks.length) 500:=(zcv ks (fun k=>k.sp) ks.length 1 lc lp ks.length (Nat.le_refl _)).mono (by omega)
 refine⟨l1,fe l2 (jd l1 l1 1000 (by omega)) 1501 (by omega),?_⟩
 exact ru l3 (kr yr (by omega)) (by rw[(bp yr).1];omega) 502 (by omega)
theorem qje (v:Value) (m1 m2 m3 b o:Rat) (s4:Bool) (x4 y4:Int) (p4:Option Addr) (s5:Bool) (x5 y5:Int) (p5:Option Addr) (w:World) (hv:zci m1 m2 m3 w v) (hb:aq w (.agg #[.bool s4,.int .u64 x4,.int .u64 y4,.pointer p4]) b) (ho:aq w (.agg #[.bool s5,.int .u64 x5,.int .u64 y5,.pointer p5]) o) (l1:Len m1 2000) (l2:Len m2 2000) (l3:Len m3 2000) (lb:Len b 20000) (lo:Len o 10000) :
  Calls prog 57 #[v,.agg #[.bool s4,.int .u64 x4,.int .u64 y4,.pointer p4,.bool s5,.int .u64 x5,.int .u64 y5,.pointer p5]] w fun e w'=>∃ v',e=.returned v'∧aq w' v' (amR m1 m2 m3 b o)∧But [] w w':=by
 obtain⟨s1,x1,y1,p1,s2,x2,y2,p2,s3,x3,y3,p3,rfl,h1,h2,h3⟩:=hv
 obtain⟨M,hM⟩:∃ M,M=((1:Int):Rat)-o:=⟨_,rfl⟩
 have lM:Len M 10002:=by rw[hM];exact fe ((kr 1 (by decide)).mono (show 1≤1 by omega)) lo 10002 (by omega)
 have RE:=af (fun W (h:But [] w W)=>zja _ o W (ho.but h) (lo.mono (by omega)))
 rw[← hM] at RE
 have hval:amR m1 m2 m3 b o=(b-M*m1)*(b-M*m1)+M*M*m2+o*o*m3:=by rw[hM];rfl
 rw[hval]
 have H1:=af h1
 have H2:=af h2
 have H3:=af h3
 have H4:=af hb
 have H5:=af ho
 clear h1 h2 h3 hb ho hM hval
 obtain⟨A0,hA0⟩:∃ A0,A0=w.alloc (.cells #[.bool s1,.int .u64 x1,.int .u64 y1,.pointer p1,.bool s2,.int .u64 x2,.int .u64 y2,.pointer p2,.bool s3,.int .u64 x3,.int .u64 y3,.pointer p3] 112):=⟨_,rfl⟩
 obtain⟨A1,hA1⟩:∃ A1,A1=A0.alloc (.cells #[.bool s4,.int .u64 x4,.int .u64 y4,.pointer p4,.bool s5,.int .u64 x5,.int .u64 y5,.pointer p5] 50):=⟨_,rfl⟩
 obtain⟨W,hW⟩:∃ W,W=A1.alloc (.cells #[.bool false,.int .u64 0,.int .u64 0,.pointer none] 27):=⟨_,rfl⟩
 have sA0:A0.heap.size=w.heap.size+1:=by rw[hA0];simp
 have sA1:A1.heap.size=w.heap.size+1+1:=by rw[hA1,← sA0];simp
 have bA0:But [] w A0:=by rw[hA0];exact (But.refl _ _).alloc _
 have bA1:But [] A0 A1:=by rw[hA1];exact (But.refl _ _).alloc _
 have bW:But [] A1 W:=by rw[hW];exact (But.refl _ _).alloc _
 have y2:xg W w.heap.size [.bool s1,.int .u64 x1,.int .u64 y1,.pointer p1,.bool s2,.int .u64 x2,.int .u64 y2,.pointer p2,.bool s3,.int .u64 x3,.int .u64 y3,.pointer p3]:=by
  have h:=xg.new w [.bool s1,.int .u64 x1,.int .u64 y1,.pointer p1,.bool s2,.int .u64 x2,.int .u64 y2,.pointer p2,.bool s3,.int .u64 x3,.int .u64 y3,.pointer p3] 112
  change xg (w.alloc (.cells #[.bool s1,.int .u64 x1,.int .u64 y1,.pointer p1,.bool s2,.int .u64 x2,.int .u64 y2,.pointer p2,.bool s3,.int .u64 x3,.int .u64 y3,.pointer p3] 112)) _ _ at h
  rw[← hA0] at h
  exact (h.but bA1 (by simp) (by simp)).but bW (by simp) (by simp)
 have y3:xg W (w.heap.size+1) [.bool s4,.int .u64 x4,.int .u64 y4,.pointer p4,.bool s5,.int .u64 x5,.int .u64 y5,.pointer p5]:=by
  have h:xg A1 (w.heap.size+1) [.bool s4,.int .u64 x4,.int .u64 y4,.pointer p4,.bool s5,.int .u64 x5,.int .u64 y5,.pointer p5]:=by
   rw[hA1,← sA0]
   exact xg.new A0 [.bool s4,.int .u64 x4,.int .u64 y4,.pointer p4,.bool s5,.int .u64 x5,.int .u64 y5,.pointer p5] 50
  exact h.but bW (by simp) (by simp)
 have x4':bh W (w.heap.size+1+1) 0:=by
  rw[hW,← sA1]
  exact bh.new A1 false 0 0 none 0 27 (jb _)
 have Y2:=af y2
 have Y3:=af y3
 have X4:=af x4'
 have BW:=af ((bA0.trans' bA1).trans' bW)
 clear y2 y3 x4' bA0 bA1 bW
 go_enter func57,ntmps57
 go_wp2_with fail
 rw[← hA0,← hA1,← hW]
 refine (ae RE _ (ae BW)).mono ?_
 rintro e w1 ⟨v1,rfl,hf1,hb1⟩
 obtain⟨x6,y6,p6,rfl,-⟩:=id hf1.agg
 generalize decide (M.num<0)=s6 at *
 have bs1:=hb1.trans' ((But.refl _ _).alloc (.cells #[.bool s6,.int .u64 x6,.int .u64 y6,.pointer p6] 27))
 have B1:=af ((ae BW).trans' bs1)
 have Y21:=af ((ae Y2).but bs1 (by simp) (by simp))
 have Y31:=af ((ae Y3).but bs1 (by simp) (by simp))
 have X41:=af ((ae X4).but bs1)
 have Y5:=af (bh.new w1 s6 x6 y6 p6 _ 27 hf1)
 clear hb1 hf1 bs1 Y2 Y3 X4 BW RE hA0 hA1 hW sA0 sA1
 go_wp2
 generalize w1.heap.size=g5 at *
 generalize w1.alloc (.cells #[.bool s6,.int .u64 x6,.int .u64 y6,.pointer p6] 27)=V1 at *
 generalize hg4:w.heap.size+1+1=g4 at *
 generalize hg3:w.heap.size+1=g3 at *
 generalize hg2:w.heap.size=g2 at *
 obtain⟨⟨t5,a5,b5,q5,k5,f5⟩,-⟩:=ae Y5
 have lMm:=jd lM l1 12002 (by omega)
 have lD:=fe lb lMm 32003 (by omega)
 have lF:=jd lD lD 64006 (by omega)
 refine ztz 2 _ _ V1 V1.heap.size g2 g3 s4 x4 y4 p4 t5 a5 b5 q5 s1 x1 y1 p1 b M m1 (by simp) g5 (Nat.le_refl _) (by simp[Act.eval]) (by simp[Act.eval]) (by simp[Act.eval]) ⟨(ae Y31).cells 0 _ rfl,(ae Y31).cells 1 _ rfl,(ae Y31).cells 2 _ rfl,(ae Y31).cells 3 _ rfl⟩ k5 ⟨(ae Y21).cells 0 _ rfl,(ae Y21).cells 1 _ rfl,(ae Y21).cells 2 _ rfl,(ae Y21).cells 3 _ rfl⟩ (fun W hb=>dh _ _ _ _ W (f5.but hb) ((ae H1).but ((ae B1).trans' hb)) (lM.mono (by omega)) (l1.mono (by omega))) (fun W hb v hv=>zbh _ _ _ _ W ((ae H4).but ((ae B1).trans' hb)) hv (lb.mono (by omega)) (lMm.mono (by omega))) (fun W hb v hv=>zax _ _ W hv (lD.mono (by omega))) ?_
 intro w2 bn v5 v6 s7 x7 y7 p7 hb2 hBn hp2 hz2 hf2
 simp only[bk,List.foldl_cons,List.foldl_nil,Act.put,List.setIfInBounds_toArray,List.set_cons_zero,List.set_cons_succ]
 have hP2:=ay w2 bn s7 x7 y7 p7
 have x6':bh (zy w2 bn s7 x7 y7 p7) bn ((b-M*m1)*(b-M*m1)):=bh.put (f:=0) ⟨⟨false,0,0,none,hp2,jb _⟩,hz2⟩ hf2
 have hbo:∀ g ∈ [bn],∃ s,w2.cell? ⟨g,0,none⟩=some (.bool s):=fun g hg=>by simp at hg;subst hg;exact⟨_,hp2.1⟩
 have lV1:g2<V1.heap.size∧g3<V1.heap.size∧g4<V1.heap.size∧g5<V1.heap.size:=⟨(ae Y21).lt (by simp),(ae Y31).lt (by simp),(ae X41).lt,(ae Y5).lt⟩
 have B2:=af (((ae B1).trans' hb2).trans hP2 (fun x hx=>by simp at hx;subst hx;exact .inr (by have:=(ae B1).size;omega)))
 have Y22:=af (((ae Y21).but hb2 (by simp) (by simp)).but hP2 (by simp;omega) (by simp))
 have Y32:=af (((ae Y31).but hb2 (by simp) (by simp)).but hP2 (by simp;omega) (by simp))
 have X42:=af (((ae X41).but hb2).beside hP2 (by simp;omega) hbo)
 have Y52:=af (((ae Y5).but hb2).beside hP2 (by simp;omega) hbo)
 have X62:=af x6'
 generalize zy w2 bn s7 x7 y7 p7=V2 at *
 clear hP2 x6' hbo hb2 hBn hp2 hz2 hf2 Y21 Y31 X41 Y5 B1 k5 f5 lV1
 go_wp2
 obtain⟨⟨t4,a4,b4,q4,k4,-⟩,z4⟩:=ae X42
 obtain⟨⟨t5,a5,b5,q5,k5,f5⟩,-⟩:=ae Y52
 obtain⟨⟨t6,a6,b6,q6,k6,f6⟩,-⟩:=ae X62
 have lMM:=jd lM lM 20004 (by omega)
 have lMMb:=jd lMM l2 22004 (by omega)
 have lA:=mi lF lMMb 86011 (by omega)
 have loo:=jd lo lo 20000 (by omega)
 have lood:=jd loo l3 22000 (by omega)
 refine zty 3 _ _ V2 g2 g3 t6 a6 b6 q6 t5 a5 b5 q5 s2 x2 y2 p2 s5 x5 y5 p5 s3 x3 y3 p3 _ M m2 o m3 g4 g5 bn (by simp) (by simp[Act.eval]) k4 z4 (by simp[Act.eval]) (by simp[Act.eval]) (by simp[Act.eval]) (by simp[Act.eval]) k6 k5 ⟨(ae Y22).cells 4 _ rfl,(ae Y22).cells 5 _ rfl,(ae Y22).cells 6 _ rfl,(ae Y22).cells 7 _ rfl⟩ ⟨(ae Y32).cells 4 _ rfl,(ae Y32).cells 5 _ rfl,(ae Y32).cells 6 _ rfl,(ae Y32).cells 7 _ rfl⟩ ⟨(ae Y22).cells 8 _ rfl,(ae Y22).cells 9 _ rfl,(ae Y22).cells 10 _ rfl,(ae Y22).cells 11 _ rfl⟩ (fun W hb=>zax _ _ W (f5.but hb) (lM.mono (by omega))) (fun W hb v hv=>dh _ _ _ _ W hv ((ae H2).but ((ae B2).trans' hb)) (lMM.mono (by omega)) (l2.mono (by omega))) (fun W hb v hv=>zaa _ _ _ _ W (f6.but hb) hv (lF.mono (by omega)) (lMMb.mono (by omega))) (fun W hb=>zax _ _ W ((ae H5).but ((ae B2).trans' hb)) (lo.mono (by omega))) (fun W hb v hv=>dh _ _ _ _ W hv ((ae H3).but ((ae B2).trans' hb)) (loo.mono (by omega)) (l3.mono (by omega))) (fun W hb v u hv hu=>zaa _ _ _ _ W hv hu (lA.mono (by omega)) (lood.mono (by omega))) ?_
 intro w3 u2 u5 u6 u9 u12 s8 x8 y8 p8 hb3 hf3
 simp only[bk,List.foldl_cons,List.foldl_nil,Act.put,List.setIfInBounds_toArray,List.set_cons_zero,List.set_cons_succ]
 have hP:=ay w3 g4 s8 x8 y8 p8
 obtain⟨m0,m1',m2',m3'⟩:=jl w3 g4 s8 x8 y8 p8 (k4.but hb3 (by simp))
 have hF:But [] w (zy w3 g4 s8 x8 y8 p8):=((ae B2).trans' hb3).trans hP (fun x hx=>by simp at hx;subst hx;exact .inr (by omega))
 have hff:=hf3.over (k4.but hb3 (by simp)).1 hP
 generalize zy w3 g4 s8 x8 y8 p8=F at *
 clear hP hf3 hb3 k4 z4 k5 k6 f5 f6
 go_wp2
 exact bodyPost_ret (v:=.agg #[.bool s8,.int .u64 x8,.int .u64 y8,.pointer p8]) (by simp[results,results57,go_sem,m0,m1',m2',m3']) rfl ⟨_,rfl,hff,hF⟩
theorem qby (q:Option Addr) (n cap:Nat) (ks:List Kd) (yr:Int) (w:World) (hv:nu w (.slice q n cap) ks) (hN:n=ks.length) (hn:n≤40) (hy1:1≤yr) (hy2:yr≤120) (lc:∀ k,k<n→Len (ze ks k).ch 1) (lm:∀ k,k<n→Len (ze ks k).me 1) (lp:∀ k,k<n→Len (ze ks k).sp 1) (s4:Bool) (x4 y4:Int) (p4:Option Addr) (s5:Bool) (x5 y5:Int) (p5:Option Addr) (b o:Rat) (hb:aq w (.agg #[.bool s4,.int .u64 x4,.int .u64 y4,.pointer p4]) b) (ho:aq w (.agg #[.bool s5,.int .u64 x5,.int .u64 y5,.pointer p5]) o) (lb:Len b 20000) (lo:Len o 10000) (hk:zws ks=0) :
  Calls prog 15 #[.slice q n cap,.int .i64 yr,.agg #[.bool s4,.int .u64 x4,.int .u64 y4,.pointer p4,.bool s5,.int .u64 x5,.int .u64 y5,.pointer p5]] w fun e w'=>∃ s x y p,e=.returned (.tuple #[.agg #[.bool s,.int .u64 x,.int .u64 y,.pointer p],.nilIface])∧aq w' (.agg #[.bool s,.int .u64 x,.int .u64 y,.pointer p]) (amR (mx1 ks) (mx2 ks) (mx3 ks yr) b o)∧But [] w w':=by
 obtain⟨l1,l2,l3⟩:=qdu ks yr (by omega) hy1 hy2 (by rw[← hN];exact lc) (by rw[← hN];exact lm) (by rw[← hN];exact lp)
 have CK:=af (fun W (h:But [] w W)=>zjb q n cap ks yr W (hv.but h) hN hn hy1 hy2 lc lm lp)
 rw[hk] at CK
 have MI:Hid (∀ W,But [] w W→Calls prog 53 #[.slice q n cap,.int .i64 yr] W fun e w'=>∃ v,e=.returned v∧zci (mx1 ks) (mx2 ks) (mx3 ks yr) w' v∧But [] W w'):=fun W h=>by
  have:=zuo q n cap ks yr W (hv.but h) hN hn hy1 hy2 lc lm lp
  rw[hN] at this
  rw[hN]
  exact this
 have AM:=af (fun W v (h:But [] w W) (hv:zci (mx1 ks) (mx2 ks) (mx3 ks yr) W v)=>qje v _ _ _ b o s4 x4 y4 p4 s5 x5 y5 p5 W hv (hb.but h) (ho.but h) (l1.mono (by omega)) (l2.mono (by omega)) (l3.mono (by omega)) lb lo)
 generalize amR (mx1 ks) (mx2 ks) (mx3 ks yr) b o=R at *
 obtain⟨A0,hA0⟩:∃ A0,A0=w.alloc (.cells #[.bool s4,.int .u64 x4,.int .u64 y4,.pointer p4,.bool s5,.int .u64 x5,.int .u64 y5,.pointer p5] 50):=⟨_,rfl⟩
 obtain⟨W,hW⟩:∃ W,W=A0.alloc (.cells #[.bool false,.int .u64 0,.int .u64 0,.pointer none] 27):=⟨_,rfl⟩
 have sA0:A0.heap.size=w.heap.size+1:=by rw[hA0];simp
 have bA0:But [] w A0:=by rw[hA0];exact (But.refl _ _).alloc _
 have bW:But [] A0 W:=by rw[hW];exact (But.refl _ _).alloc _
 have y5:xg W w.heap.size [.bool s4,.int .u64 x4,.int .u64 y4,.pointer p4,.bool s5,.int .u64 x5,.int .u64 y5,.pointer p5]:=by
  have h:=xg.new w [.bool s4,.int .u64 x4,.int .u64 y4,.pointer p4,.bool s5,.int .u64 x5,.int .u64 y5,.pointer p5] 50
  change xg (w.alloc (.cells #[.bool s4,.int .u64 x4,.int .u64 y4,.pointer p4,.bool s5,.int .u64 x5,.int .u64 y5,.pointer p5] 50)) _ _ at h
  rw[← hA0] at h
  exact h.but bW (by simp) (by simp)
 have x6:bh W (w.heap.size+1) 0:=by
  rw[hW,← sA0]
  exact bh.new A0 false 0 0 none 0 27 (jb _)
 have Y5:=af y5
 have X6:=af x6
 have BW:=af (bA0.trans' bW)
 clear y5 x6 bA0 bW hv hb ho lb lo lc lm lp hk l1 l2 l3 hN
 go_enter func15,ntmps15
 go_wp2_with fail
 rw[← hA0,← hW]
 refine (ae CK _ (ae BW)).mono ?_
 rintro e w1 ⟨rfl,hb1⟩
 have B1:=af ((ae BW).trans' hb1)
 have Y51:=af ((ae Y5).but hb1 (by simp) (by simp))
 have X61:=af ((ae X6).but hb1)
 clear hb1 BW Y5 X6 CK hA0 hW sA0
 rw[show zmf 0=.nilIface from rfl]
 go_wp2
 generalize hg6:w.heap.size+1=g6 at *
 generalize hg5:w.heap.size=g5 at *
 obtain⟨⟨t6,a6,b6,q6,k6,-⟩,z6⟩:=ae X61
 refine zpi 4 _ _ w1 yr (.slice q n cap) s4 x4 y4 p4 s5 x5 y5 p5 (mx1 ks) (mx2 ks) (mx3 ks yr) R g6 g5 (by simp) (by simp[Act.eval]) k6 z6 (by simp[Act.eval]) (by simp[Act.eval]) (by simp[Act.eval]) (ae Y51) (fun W hb=>ae MI W ((ae B1).trans' hb)) (fun W hb v hv=>ae AM W v ((ae B1).trans' hb) hv) ?_
 intro w2 v2 s8 x8 y8 p8 hb2 hf2
 simp only[bk,List.foldl_cons,List.foldl_nil,Act.put,List.setIfInBounds_toArray,List.set_cons_zero,List.set_cons_succ]
 have hP:=ay w2 g6 s8 x8 y8 p8
 obtain⟨m0,m1,m2,m3⟩:=jl w2 g6 s8 x8 y8 p8 (k6.but hb2 (by simp))
 have hF:But [] w (zy w2 g6 s8 x8 y8 p8):=((ae B1).trans' hb2).trans hP (fun x hx=>by simp at hx;subst hx;exact .inr (by omega))
 have hff:=hf2.over (k6.but hb2 (by simp)).1 hP
 generalize zy w2 g6 s8 x8 y8 p8=F at *
 clear hP hf2 hb2 k6 z6
 go_wp2
 exact bodyPost_ret (v:=.tuple #[.agg #[.bool s8,.int .u64 x8,.int .u64 y8,.pointer p8],.nilIface]) (by simp[results,results15,go_sem,m0,m1,m2,m3]) rfl ⟨s8,x8,y8,p8,rfl,hff,hF⟩
def zrc (ks:List Kd) (yr:Int):Rat:=zaz (mx2 ks) (mx3 ks yr)
theorem zpo {b d:Rat} {m n:Nat} (lb:Len b m) (ld:Len d n) (hne:b.num≠0→(b+d).num≠0) (k:Nat) (hk:2*m+n+1≤k):Len (zaz b d) k:=by
 unfold zaz
 by_cases h:b.num=0
 ·rw[if_pos h];exact zbw _ (by omega)
 ·rw[if_neg h]
  exact ru lb (mi lb ld (m+n+1) (by omega)) (hne h) k (by omega)
theorem qim (q:Option Addr) (n cap:Nat) (ks:List Kd) (yr:Int) (w:World) (hv:nu w (.slice q n cap) ks) (hN:n=ks.length) (hn:n≤40) (hy1:1≤yr) (hy2:yr≤120) (lc:∀ k,k<n→Len (ze ks k).ch 1) (lm:∀ k,k<n→Len (ze ks k).me 1) (lp:∀ k,k<n→Len (ze ks k).sp 1) (hne:(mx2 ks).num≠0→(mx2 ks+mx3 ks yr).num≠0) (hk:zws ks=0) :
  Calls prog 14 #[.slice q n cap,.int .i64 yr] w fun e w'=>∃ v,e=.returned (.tuple #[v,.nilIface])∧zhl ((((1:Int):Rat)-zrc ks yr)*mx1 ks) (zrc ks yr) w' v∧But [] w w':=by
 obtain⟨l1,l2,l3⟩:=qdu ks yr (by omega) hy1 hy2 (by rw[← hN];exact lc) (by rw[← hN];exact lm) (by rw[← hN];exact lp)
 have lO:Len (zrc ks yr) 4000:=zpo l2 l3 hne 4000 (by omega)
 have CK:=af (fun W (h:But [] w W)=>zjb q n cap ks yr W (hv.but h) hN hn hy1 hy2 lc lm lp)
 rw[hk] at CK
 have MI:Hid (∀ W,But [] w W→Calls prog 53 #[.slice q n cap,.int .i64 yr] W fun e w'=>∃ v,e=.returned v∧zci (mx1 ks) (mx2 ks) (mx3 ks yr) w' v∧But [] W w'):=fun W h=>by
  have:=zuo q n cap ks yr W (hv.but h) hN hn hy1 hy2 lc lm lp
  rw[hN] at this
  rw[hN]
  exact this
 have OW:Hid (∀ W va vb,aq W va (mx2 ks)→aq W vb (mx3 ks yr)→Calls prog 54 #[va,vb] W fun e w'=>∃ v,e=.returned v∧aq w' v (zrc ks yr)∧But [] W w'):=fun W va vb h1 h2=>zim va vb _ _ W h1 h2 (l2.mono (by omega)) (l3.mono (by omega)) hne
 generalize zrc ks yr=o at *
 generalize mx1 ks=m1 at *
 generalize mx2 ks=m2 at *
 generalize mx3 ks yr=m3 at *
 have x4:xg (w.alloc (.cells #[.bool false,.int .u64 0,.int .u64 0,.pointer none,.bool false,.int .u64 0,.int .u64 0,.pointer none] 50)) w.heap.size [.bool false,.int .u64 0,.int .u64 0,.pointer none,.bool false,.int .u64 0,.int .u64 0,.pointer none]:=xg.new w _ _
 have bA:But [] w (w.alloc (.cells #[.bool false,.int .u64 0,.int .u64 0,.pointer none,.bool false,.int .u64 0,.int .u64 0,.pointer none] 50)):=(But.refl _ _).alloc _
 have X4:=af x4
 have BA:=af bA
 have Q2:Hid (w.heap.size≤w.heap.size):=Nat.le_refl _
 clear x4 bA hv lc lm lp hN hne hk
 go_enter func14,ntmps14
 go_wp2_with fail
 refine (ae CK _ (ae BA)).mono ?_
 rintro e w1 ⟨rfl,hb1⟩
 have B1:=af ((ae BA).trans' hb1)
 have X41:=af ((ae X4).but hb1 (by simp) (by simp))
 clear hb1 X4 BA CK
 rw[show zmf 0=.nilIface from rfl]
 go_wp2_with fail
 refine (ae MI _ (ae B1)).mono ?_
 rintro e w2 ⟨v2,rfl,⟨s1,x1,y1,p1,s2,x2,y2,p2,s3,x3,y3,p3,rfl,h1,h2,h3⟩,hb2⟩
 have bA2:But [] w2 (w2.alloc (.cells #[.bool s1,.int .u64 x1,.int .u64 y1,.pointer p1,.bool s2,.int .u64 x2,.int .u64 y2,.pointer p2,.bool s3,.int .u64 x3,.int .u64 y3,.pointer p3] 112)):=(But.refl _ _).alloc _
 have bs2:=hb2.trans' bA2
 have B2:=af ((ae B1).trans' bs2)
 have X42:=af ((ae X41).but bs2 (by simp) (by simp))
 have Y7:Hid (xg (w2.alloc (.cells #[.bool s1,.int .u64 x1,.int .u64 y1,.pointer p1,.bool s2,.int .u64 x2,.int .u64 y2,.pointer p2,.bool s3,.int .u64 x3,.int .u64 y3,.pointer p3] 112)) w2.heap.size [.bool s1,.int .u64 x1,.int .u64 y1,.pointer p1,.bool s2,.int .u64 x2,.int .u64 y2,.pointer p2,.bool s3,.int .u64 x3,.int .u64 y3,.pointer p3]):=xg.new w2 _ _
 have H1:=af (h1.but bA2)
 have OW2:=af (ae OW _ _ _ (h2.but bA2) (h3.but bA2))
 clear hb2 bs2 bA2 h1 h2 h3 X41 B1 MI OW
 go_wp2_with fail
 generalize w2.heap.size=g7 at *
 generalize w2.alloc (.cells #[.bool s1,.int .u64 x1,.int .u64 y1,.pointer p1,.bool s2,.int .u64 x2,.int .u64 y2,.pointer p2,.bool s3,.int .u64 x3,.int .u64 y3,.pointer p3] 112)=V2 at *
 refine (ae OW2).mono ?_
 rintro e w3 ⟨v3,rfl,hf3,hb3⟩
 obtain⟨x5,y5,p5,rfl,-⟩:=id hf3.agg
 generalize decide (o.num<0)=s5 at *
 have bA3:But [] w3 (w3.alloc (.cells #[.bool s5,.int .u64 x5,.int .u64 y5,.pointer p5] 27)):=(But.refl _ _).alloc _
 have bs3:=hb3.trans' bA3
 have B3:=af ((ae B2).trans' bs3)
 have X43:=af ((ae X42).but bs3 (by simp) (by simp))
 have Y73:=af ((ae Y7).but bs3 (by simp) (by simp))
 have H13:=af ((ae H1).but bs3)
 have Y8:=af (bh.new w3 s5 x5 y5 p5 _ 27 hf3)
 clear hb3 hf3 bA3 bs3 X42 B2 Y7 H1 OW2
 go_wp2
 generalize w3.heap.size=g8 at *
 generalize w3.alloc (.cells #[.bool s5,.int .u64 x5,.int .u64 y5,.pointer p5] 27)=V3 at *
 generalize hg4:w.heap.size=g4 at *
 obtain⟨⟨t8,a8,b8,q8,k8,f8⟩,-⟩:=ae Y8
 have lR:=fe ((kr 1 (by decide)).mono (show 1≤1 by omega)) lO 4002 (by omega)
 refine ztq 6 _ _ V3 g7 t8 a8 b8 q8 s1 x1 y1 p1 o m1 g4 g8 (by simp) (by simp[Act.eval]) (ae X43) rfl (by simp[Act.eval]) (by simp[Act.eval]) k8 ⟨(ae Y73).cells 0 _ rfl,(ae Y73).cells 1 _ rfl,(ae Y73).cells 2 _ rfl,(ae Y73).cells 3 _ rfl⟩ f8 (fun W hb=>zja _ o W (f8.but hb) (lO.mono (by omega))) (fun W hb v hv=>dh _ _ _ _ W hv ((ae H13).but hb) (lR.mono (by omega)) (l1.mono (by omega))) ?_
 intro w4 v1' v4 v5 e1 e2 e3 e4 e5 e6 e7 e8 hb4 h1 h2
 simp only[bk,List.foldl_cons,List.foldl_nil,Act.put,List.setIfInBounds_toArray,List.set_cons_zero,List.set_cons_succ]
 have X44:=(ae X43).but hb4 (by simp) (by simp)
 have hS:=br w4 g4 [.bool e1,.int .u64 e2,.int .u64 e3,.pointer e4,.bool e5,.int .u64 e6,.int .u64 e7,.pointer e8] 0
 have P:=X44.put (us:=[.bool e1,.int .u64 e2,.int .u64 e3,.pointer e4,.bool e5,.int .u64 e6,.int .u64 e7,.pointer e8]) rfl
 have m0':=P.cells 0 _ rfl
 have m1':=P.cells 1 _ rfl
 have m2':=P.cells 2 _ rfl
 have m3':=P.cells 3 _ rfl
 have m4':=P.cells 4 _ rfl
 have m5':=P.cells 5 _ rfl
 have m6':=P.cells 6 _ rfl
 have m7':=P.cells 7 _ rfl
 have c0:=X44.cells 0 _ rfl
 have hF:But [] w (w4.setCells g4 0 [.bool e1,.int .u64 e2,.int .u64 e3,.pointer e4,.bool e5,.int .u64 e6,.int .u64 e7,.pointer e8]):=((ae B3).trans' hb4).trans hS (fun x hx=>by simp at hx;subst hx;exact .inr (by omega))
 have h1':=h1.over c0 hS
 have h2':=h2.over c0 hS
 generalize w4.setCells g4 0 [.bool e1,.int .u64 e2,.int .u64 e3,.pointer e4,.bool e5,.int .u64 e6,.int .u64 e7,.pointer e8]=F at *
 clear P X44 hS c0 h1 h2 hb4 k8 f8
 go_wp2
 exact bodyPost_ret (v:=.tuple #[.agg #[.bool e1,.int .u64 e2,.int .u64 e3,.pointer e4,.bool e5,.int .u64 e6,.int .u64 e7,.pointer e8],.nilIface]) (by simp[results,results14,go_sem,m0',m1',m2',m3',m4',m5',m6',m7']) rfl ⟨_,rfl,⟨e1,e2,e3,e4,e5,e6,e7,e8,rfl,h1',h2'⟩,hF⟩
set_option linter.unusedVariables false
theorem zns (q:Option Addr) (n cap:Nat) (yr:Int) (w:World) (hn:n<1∨1≤n∧40<n) :
  Calls prog 52 #[.slice q n cap,.int .i64 yr] w fun e w'=>e=.returned (.iface 33 (.int .i64 4))∧But [] w w':=by
 have bw:But [] w w:=But.refl _ _
 rcases hn with h|⟨h1,h2⟩
 ·go_enter func52,ntmps52
  go_wp2
  go_ret
  exact⟨rfl,bw⟩
 ·have h3:¬ n<1:=by omega
  go_enter func52,ntmps52
  go_wp2
  go_ret
  exact⟨rfl,bw⟩
theorem zsm (q:Option Addr) (n cap:Nat) (ks:List Kd) (yr:Int) (w:World) (hv:nu w (.slice q n cap) ks) (hN:n=ks.length) (hn1:1≤n) (hn:n≤40) (ce:Int) (hce:ce=if ks.any (fun k=>decide (k.ch.num<0) || decide (k.sp.num<0)) then 1 else if mkR ks (fun _=>((1:Int):Rat)) n=((1:Int):Rat) then (if yr<1 then 2 else if 120<yr then 2 else 0) else 10) (lc:∀ k,k<n→Len (ze ks k).ch 1) (_lm:∀ k,k<n→Len (ze ks k).me 1) (_lp:∀ k,k<n→Len (ze ks k).sp 1) :
  Calls prog 52 #[.slice q n cap,.int .i64 yr] w fun e w'=>e=.returned (zmf ce)∧But [] w w':=by
 have HV:=af hv
 have HN:=af hN
 have ME:=af (fun W (h:But [] w W)=>zez q n cap ks (fun _=>((1:Int):Rat)) 1 114 W (hv.but h) hN hn (by omega) lc (fun k hk=>kr 1 (by decide)) zov (fun s1 x1 y1 p1 s2 x2 y2 p2 s3 x3 y3 p3 k W hk hok=>qbb s1 x1 y1 p1 s2 x2 y2 p2 s3 x3 y3 p3 _ W hok))
 obtain⟨SM,hSM⟩:∃ SM,SM=mkR ks (fun _=>((1:Int):Rat)) n:=⟨_,rfl⟩
 have lS:Len SM 200:=by
  rw[hSM]
  refine (zcv ks (fun _=>((1:Int):Rat)) n 1 lc (fun k hk=>kr 1 (by decide)) n (Nat.le_refl _)).mono ?_
  omega
 rw[← hSM] at ME
 have HCE:Hid (ce=if ks.any (fun k=>decide (k.ch.num<0) || decide (k.sp.num<0)) then 1 else if SM=((1:Int):Rat) then (if yr<1 then 2 else if 120<yr then 2 else 0) else 10):=by
  show _=_
  rw[hce,hSM]
 clear hce hSM hv hN lc _lm _lp
 go_enter func52,ntmps52
 have h0:¬ n<1:=by omega
 have hn40:¬ n > 40:=by omega
 ·go_wp2
  go_loopw [18] (fun iv wr=>∃ k:Nat,k≤n∧iv=.int .i64 (k:Int)∧Hid ((∀ j,j<k→¬ (ze ks j).ch.num<0∧¬ (ze ks j).sp.num<0)∧But [] w wr)) (fun iv _=>n-(intOf iv).toNat)
  case atStart=>exact⟨0,Nat.zero_le _,rfl,fun j hj=>absurd hj (by omega),But.refl _ _⟩
  case round =>
   obtain⟨k,hk,rfl,HI⟩:=hrel
   rename World=>wr
   by_cases hlt:k<n
   ·have hkl:k<ks.length:=by have:=ae HN;omega
    have hkk:ks[k]? = some (ze ks k):=by
     unfold ze
     rw[List.getElem?_eq_getElem hkl];rfl
    obtain⟨b,off,s1,x1,y1,p1,s2,x2,y2,p2,s3,x3,y3,p3,rfl,kc,hok⟩:=((ae HV).but (ae HI).2).get k hlt _ hkk
    have r0:wr.cell? ⟨b,off+k*12,none⟩=some (.bool s1):=kc.1.1
    have r1:wr.cell? ⟨b,off+k*12+1,none⟩=some (.int .u64 x1):=kc.1.2.1
    have r2:wr.cell? ⟨b,off+k*12+2,none⟩=some (.int .u64 y1):=kc.1.2.2.1
    have r3:wr.cell? ⟨b,off+k*12+3,none⟩=some (.pointer p1):=kc.1.2.2.2
    have r4:wr.cell? ⟨b,off+k*12+4,none⟩=some (.bool s2):=kc.2.1.1
    have r5:wr.cell? ⟨b,off+k*12+5,none⟩=some (.int .u64 x2):=kc.2.1.2.1
    have r6:wr.cell? ⟨b,off+k*12+6,none⟩=some (.int .u64 y2):=kc.2.1.2.2.1
    have r7:wr.cell? ⟨b,off+k*12+7,none⟩=some (.pointer p2):=kc.2.1.2.2.2
    have r8:wr.cell? ⟨b,off+k*12+8,none⟩=some (.bool s3):=kc.2.2.1
    have r9:wr.cell? ⟨b,off+k*12+9,none⟩=some (.int .u64 x3):=kc.2.2.2.1
    have r10:wr.cell? ⟨b,off+k*12+10,none⟩=some (.int .u64 y3):=kc.2.2.2.2.1
    have r11:wr.cell? ⟨b,off+k*12+11,none⟩=some (.pointer p3):=kc.2.2.2.2.2
    have SC:=af (fun W=>j6 _ (ze ks k).ch W (hok.1 W))
    have SP:=af (fun W=>j6 _ (ze ks k).sp W (hok.2.2 W))
    have HB:=af ((ae HI).2.trans' ((But.refl _ _).alloc (.cells #[.bool s1,.int .u64 x1,.int .u64 y1,.pointer p1,.bool s2,.int .u64 x2,.int .u64 y2,.pointer p2,.bool s3,.int .u64 x3,.int .u64 y3,.pointer p3] 45)))
    have KB:Hid (K12 (wr.alloc (.cells #[.bool s1,.int .u64 x1,.int .u64 y1,.pointer p1,.bool s2,.int .u64 x2,.int .u64 y2,.pointer p2,.bool s3,.int .u64 x3,.int .u64 y3,.pointer p3] 45)) wr.heap.size 0 s1 x1 y1 p1 s2 x2 y2 p2 s3 x3 y3 p3):=⟨⟨by simp,by simp,by simp,by simp⟩,⟨by simp,by simp,by simp,by simp⟩,⟨by simp,by simp,by simp,by simp⟩⟩
    have hbad:(ze ks k).ch.num<0∨(ze ks k).sp.num<0→ce=1:=fun h=>by
     rw[ae HCE,if_pos (List.any_eq_true.2 ⟨_,zry hkl,by
      rcases h with h | h
      ·rw[decide_eq_true h];rfl
      ·rw[decide_eq_true h,Bool.or_true]⟩)]
    have HBAD:=af hbad
    clear kc hok hkk hbad
    by_cases hc:(ze ks k).ch.num<0
    ·obtain rfl:=ae HBAD (.inl hc)
     rw[zkt hc] at SC
     go_wp2_with fail
     refine (ae SC _).mono ?_
     rintro e w1 ⟨rfl,hb1⟩
     have B1:=af ((ae HB).trans' hb1)
     clear hb1 r0 r1 r2 r3 r4 r5 r6 r7 r8 r9 r10 r11
     go_wp2
     go_ret
     exact⟨rfl,ae B1⟩
    ·have hsc:=zji hc
     obtain⟨sc,hsc2⟩:∃ sc,sc=(ze ks k).ch.num.sign:=⟨_,rfl⟩
     rw[← hsc2] at SC hsc
     clear hsc2
     go_wp2_with fail
     refine (ae SC _).mono ?_
     rintro e w1 ⟨rfl,hb1⟩
     have B1:=af ((ae HB).trans' hb1)
     have K1:=af ((ae KB).but hb1 (by simp))
     clear hb1 r0 r1 r2 r3 r4 r5 r6 r7 r8 r9 r10 r11 HB KB SC
     generalize wr.heap.size=g6 at *
     obtain⟨-,-,⟨k8,k9,k10,k11⟩⟩:=ae K1
     simp only[Nat.zero_add,Nat.reduceAdd] at k8 k9 k10 k11
     by_cases hp:(ze ks k).sp.num<0
     ·obtain rfl:=ae HBAD (.inr hp)
      rw[zkt hp] at SP
      go_wp2_with fail
      refine (ae SP _).mono ?_
      rintro e w2 ⟨rfl,hb2⟩
      have B2:=af ((ae B1).trans' hb2)
      clear hb2
      go_wp2
      go_ret
      exact⟨rfl,ae B2⟩
     ·have hsp:=zji hp
      obtain⟨sp,hsp2⟩:∃ sp,sp=(ze ks k).sp.num.sign:=⟨_,rfl⟩
      rw[← hsp2] at SP hsp
      clear hsp2
      go_wp2_with fail
      refine (ae SP _).mono ?_
      rintro e w2 ⟨rfl,hb2⟩
      have B2:=af ((ae B1).trans' hb2)
      have HC:=af hc
      have HP:=af hp
      clear hb2 B1 K1 k8 k9 k10 k11 hc hp
      go_wp2
      refine⟨⟨k+1,by omega,by go_num,fun j hj=>?_,ae B2⟩,by simp[intOf];omega⟩
      by_cases e:j=k
      ·subst e
       have h1:=ae HC
       have h2:=ae HP
       exact⟨by omega,by omega⟩
      ·have:=(ae HI).1 j (by omega)
       exact⟨by omega,by omega⟩
   ·obtain rfl:k=n:=by omega
    obtain⟨hall,hbw⟩:=ae HI
    have hno:ks.any (fun k=>decide (k.ch.num<0) || decide (k.sp.num<0))=false:=by
     rw[List.any_eq_false]
     intro z hz
     obtain⟨j,hj,rfl⟩:=List.mem_iff_getElem.1 hz
     have h:=hall j (by have:=ae HN;omega)
     have e:ze ks j=ks[j]:=by
      unfold ze
      rw[List.getElem?_eq_getElem hj];rfl
     rw[e] at h
     rw[decide_eq_false h.1,decide_eq_false h.2]
     decide
    have hce2:ce=if SM=((1:Int):Rat) then (if yr<1 then 2 else if 120<yr then 2 else 0) else 10:=by rw[ae HCE,hno];simp
    have HC2:=af hce2
    have HBW:=af hbw
    obtain⟨ws,wx,FW,CW⟩:=zel 1 (by omega) (by omega)
    have HFW:=af FW
    have HCW:=af CW
    obtain⟨r,hr⟩:∃ r,r=zhh (SM.num*((((1:Int):Rat)).den:Int)) ((((1:Int):Rat)).num*(SM.den:Int)):=⟨_,rfl⟩
    have h3:=(zsj SM ((1:Int):Rat) r hr).2.2
    have H3:=af h3
    have HR:=af hr
    clear hall hbw hno hce2 HI FW CW h3 hr
    go_wp2_with fail
    refine (ae ME _ (ae HBW)).mono ?_
    rintro e w1 ⟨v1,rfl,hf1,hb1⟩
    have B1:=af ((ae HBW).trans' hb1)
    obtain⟨x1,y1,p1,rfl,-⟩:=id hf1.agg
    generalize decide (SM.num<0)=s1 at *
    have F1:=af hf1
    clear hb1 hf1 ME
    go_wp2_with fail
    refine (ae HCW _).mono ?_
    rintro e w2 ⟨rfl,hb2⟩
    have B2:=af ((ae B1).trans' hb2)
    have CM:=af (zot _ _ SM ((1:Int):Rat) w2 ((ae F1).but hb2) (ae HFW w2) (lS.mono (by omega)) ((kr 1 (by decide)).mono (by omega)) r (ae HR))
    clear hb2 B1 F1 HCW
    go_wp2_with fail
    refine (ae CM).mono ?_
    rintro e w3 ⟨rfl,hb3⟩
    have B3:=af ((ae B2).trans' hb3)
    clear hb3 B2 CM
    by_cases hr0:r=0
    ·have e0:ce=if yr<1 then 2 else if 120<yr then 2 else 0:=by rw[ae HC2,if_pos ((ae H3).1 hr0)]
     have E0:=af e0
     subst hr0
     clear e0 HCE HC2
     by_cases hy1:yr<1
     ·obtain rfl:ce=2:=by rw[ae E0,if_pos hy1]
      go_wp2
      go_ret
      exact⟨rfl,ae B3⟩
     ·by_cases hy2:120<yr
      ·obtain rfl:ce=2:=by rw[ae E0,if_neg hy1,if_pos hy2]
       go_wp2
       go_ret
       exact⟨rfl,ae B3⟩
      ·obtain rfl:ce=0:=by rw[ae E0,if_neg hy1,if_neg hy2]
       have hy3:¬ yr > 120:=by omega
       go_wp2
       go_ret
       exact⟨rfl,ae B3⟩
    ·have e0:ce=10:=by rw[ae HC2,if_neg (fun h=>hr0 ((ae H3).2 h))]
     subst e0
     go_wp2
     go_ret
     exact⟨rfl,ae B3⟩
theorem zxl (q:Option Addr) (n cap:Nat) (yr:Int) (w:World) (ce:Int) (s4:Bool) (x4 y4:Int) (p4:Option Addr) (s5:Bool) (x5 y5:Int) (p5:Option Addr) (hk:ce≠0) (CK0:∀ W,But [] w W→Calls prog 52 #[.slice q n cap,.int .i64 yr] W fun e w'=>e=.returned (zmf ce)∧But [] W w') :
  Calls prog 15 #[.slice q n cap,.int .i64 yr,.agg #[.bool s4,.int .u64 x4,.int .u64 y4,.pointer p4,.bool s5,.int .u64 x5,.int .u64 y5,.pointer p5]] w fun e w'=>e=.returned (.tuple #[.agg #[.bool false,.int .u64 0,.int .u64 0,.pointer none],.iface 33 (.int .i64 ce)])∧But [] w w':=by
 have CK:=af CK0
 clear CK0
 obtain⟨A0,hA0⟩:∃ A0,A0=w.alloc (.cells #[.bool s4,.int .u64 x4,.int .u64 y4,.pointer p4,.bool s5,.int .u64 x5,.int .u64 y5,.pointer p5] 50):=⟨_,rfl⟩
 obtain⟨W,hW⟩:∃ W,W=A0.alloc (.cells #[.bool false,.int .u64 0,.int .u64 0,.pointer none] 27):=⟨_,rfl⟩
 have sA0:A0.heap.size=w.heap.size+1:=by rw[hA0];simp
 have bA0:But [] w A0:=by rw[hA0];exact (But.refl _ _).alloc _
 have bW:But [] A0 W:=by rw[hW];exact (But.refl _ _).alloc _
 have x6:bh W (w.heap.size+1) 0:=by
  rw[hW,← sA0]
  exact bh.new A0 false 0 0 none 0 27 (jb _)
 have X6:=af x6
 have BW:=af (bA0.trans' bW)
 clear x6 bA0 bW
 go_enter func15,ntmps15
 go_wp2_with fail
 rw[← hA0,← hW]
 refine (ae CK _ (ae BW)).mono ?_
 rintro e w1 ⟨rfl,hb1⟩
 have B1:=af ((ae BW).trans' hb1)
 have X61:=af ((ae X6).but hb1)
 clear hb1 BW X6 CK hA0 hW sA0
 unfold zmf
 rw[if_neg hk]
 generalize hg6:w.heap.size+1=g6 at *
 obtain⟨⟨t2,a2,b2,q2,⟨c0,c1,c2,c3⟩,-⟩,z2⟩:=ae X61
 have P2:Hid (P4 w1 g6 t2 a2 b2 q2):=⟨c0,c1,c2,c3⟩
 go_wp2
 have hP:=ay w1 g6 false 0 0 none
 obtain⟨m0,m1,m2,m3⟩:=jl w1 g6 false 0 0 none (ae P2)
 have hF:But [] w (zy w1 g6 false 0 0 none):=(ae B1).trans hP (fun x hx=>by simp at hx;subst hx;exact .inr (by omega))
 change bodyPost _ _ _ _ _ (zy w1 g6 false 0 0 none)
 generalize zy w1 g6 false 0 0 none=F at *
 exact bodyPost_ret (v:=.tuple #[.agg #[.bool false,.int .u64 0,.int .u64 0,.pointer none],.iface 33 (.int .i64 ce)]) (by simp[results,results15,go_sem,m0,m1,m2,m3]) rfl ⟨rfl,hF⟩
theorem qdr (q:Option Addr) (n cap:Nat) (yr:Int) (w:World) (ce:Int) (hk:ce≠0) (CK0:∀ W,But [] w W→Calls prog 52 #[.slice q n cap,.int .i64 yr] W fun e w'=>e=.returned (zmf ce)∧But [] W w') :
  Calls prog 14 #[.slice q n cap,.int .i64 yr] w fun e w'=>e=.returned (.tuple #[.agg #[.bool false,.int .u64 0,.int .u64 0,.pointer none,.bool false,.int .u64 0,.int .u64 0,.pointer none],.iface 33 (.int .i64 ce)])∧But [] w w':=by
 have CK:=af CK0
 clear CK0
 have x4:xg (w.alloc (.cells #[.bool false,.int .u64 0,.int .u64 0,.pointer none,.bool false,.int .u64 0,.int .u64 0,.pointer none] 50)) w.heap.size [.bool false,.int .u64 0,.int .u64 0,.pointer none,.bool false,.int .u64 0,.int .u64 0,.pointer none]:=xg.new w _ _
 have bA:But [] w (w.alloc (.cells #[.bool false,.int .u64 0,.int .u64 0,.pointer none,.bool false,.int .u64 0,.int .u64 0,.pointer none] 50)):=(But.refl _ _).alloc _
 have X4:=af x4
 have BA:=af bA
 have Q2:Hid (w.heap.size≤w.heap.size):=Nat.le_refl _
 clear x4 bA
 go_enter func14,ntmps14
 go_wp2_with fail
 refine (ae CK _ (ae BA)).mono ?_
 rintro e w1 ⟨rfl,hb1⟩
 have B1:=af ((ae BA).trans' hb1)
 have X41:=af ((ae X4).but hb1 (by simp) (by simp))
 clear hb1 X4 BA CK
 unfold zmf
 rw[if_neg hk]
 generalize hg4:w.heap.size=g4 at *
 obtain⟨u0,c0⟩:=(ae X41).some 0 (by simp)
 obtain⟨u1,c1⟩:=(ae X41).some 1 (by simp)
 obtain⟨u2,c2⟩:=(ae X41).some 2 (by simp)
 obtain⟨u3,c3⟩:=(ae X41).some 3 (by simp)
 obtain⟨u4,c4⟩:=(ae X41).some 4 (by simp)
 obtain⟨u5,c5⟩:=(ae X41).some 5 (by simp)
 obtain⟨u6,c6⟩:=(ae X41).some 6 (by simp)
 obtain⟨u7,c7⟩:=(ae X41).some 7 (by simp)
 have fz:=(ae X41).loose
 go_wp2
 have hS:=br w1 g4 [.bool false,.int .u64 0,.int .u64 0,.pointer none,.bool false,.int .u64 0,.int .u64 0,.pointer none] 0
 have P:=(ae X41).put (us:=[.bool false,.int .u64 0,.int .u64 0,.pointer none,.bool false,.int .u64 0,.int .u64 0,.pointer none]) rfl
 have m0:=P.cells 0 _ rfl
 have m1:=P.cells 1 _ rfl
 have m2:=P.cells 2 _ rfl
 have m3:=P.cells 3 _ rfl
 have m4:=P.cells 4 _ rfl
 have m5:=P.cells 5 _ rfl
 have m6:=P.cells 6 _ rfl
 have m7:=P.cells 7 _ rfl
 have hF:But [] w (w1.setCells g4 0 [.bool false,.int .u64 0,.int .u64 0,.pointer none,.bool false,.int .u64 0,.int .u64 0,.pointer none]):=(ae B1).trans hS (fun x hx=>by simp at hx;subst hx;exact .inr (by omega))
 change bodyPost _ _ _ _ _ (w1.setCells g4 0 [.bool false,.int .u64 0,.int .u64 0,.pointer none,.bool false,.int .u64 0,.int .u64 0,.pointer none])
 generalize w1.setCells g4 0 [.bool false,.int .u64 0,.int .u64 0,.pointer none,.bool false,.int .u64 0,.int .u64 0,.pointer none]=F at *
 exact bodyPost_ret (v:=.tuple #[.agg #[.bool false,.int .u64 0,.int .u64 0,.pointer none,.bool false,.int .u64 0,.int .u64 0,.pointer none],.iface 33 (.int .i64 ce)]) (by simp[results,results14,go_sem,m0,m1,m2,m3,m4,m5,m6,m7]) rfl ⟨rfl,hF⟩
theorem zrz {x:Rat} (h:0≤x):0≤x⁻¹:=by
 by_cases e:x=0
 ·rw[e,Rat.inv_zero];exact Rat.le_refl
 ·exact Rat.le_of_lt (Rat.inv_pos.2 (Rat.lt_of_le_of_ne h (Ne.symm e)))
theorem zjv {x:Rat} (h:¬ x.num<0):0≤x:=Rat.num_nonneg.1 (by omega)
theorem zna (b d:Rat) (hb:0≤b) (hd:0≤d):(b=0→zaz b d=0)∧(b≠0→zaz b d*(b+d)=b)∧(b.num≠0→(b+d).num≠0):=by
 have hn:b≠0→b+d≠0:=fun h e=>h (by grind)
 refine⟨fun h=>by unfold zaz;rw[h];rfl,fun h=>?_,fun h e=>?_⟩
 ·unfold zaz
  rw[if_neg (fun e=>h (Rat.num_eq_zero.1 e)),Rat.div_mul_cancel (hn h)]
 ·exact hn (fun e2=>h (by rw[e2];rfl)) (Rat.num_eq_zero.1 e)
theorem qay (ks:List Kd) (hk:zws ks=0):(∀ j,j<ks.length→0≤(ze ks j).ch)∧(∀ j,j<ks.length→0≤(ze ks j).sp)∧sgR (fun j=>(ze ks j).ch) ks.length=1:=by
 unfold zws at hk
 split at hk
 ·simp at hk
 split at hk
 ·simp at hk
 rename_i h2
 split at hk
 ·rename_i h3
  have h4:∀ k ∈ ks,¬ k.ch.num<0∧¬ k.sp.num<0:=fun k hm=>by
   simp only[List.any_eq_true,not_exists,not_and,Bool.or_eq_true,decide_eq_true_eq,not_or] at h2
   exact h2 k hm
  refine⟨fun j hj=>zjv (h4 _ (zry hj)).1,fun j hj=>zjv (h4 _ (zry hj)).2,?_⟩
  have h5:mkR ks (fun _=>((1:Int):Rat)) ks.length=sgR (fun j=>(ze ks j).ch) ks.length:=yo _ _ _ (fun k _=>by
   show (ze ks k).ch*((1:Int):Rat)=_
   rw[show ((1:Int):Rat)=1 from rfl,Rat.mul_one])
  rw[← h5,h3];rfl
 ·simp at hk
theorem qii (ks:List Kd) (yr:Int) (hk:zws ks=0) (hy:1≤yr):0≤mx2 ks∧0≤mx3 ks yr:=by
 obtain⟨h1,h2,h3⟩:=qay ks hk
 refine⟨zka (fun j=>(ze ks j).ch) (fun j=>(ze ks j).me) ks.length h1 h3,?_⟩
 have h4:0≤mkR ks (fun k=>k.sp) ks.length:=zep _ _ (fun j hj=>Rat.mul_nonneg (h1 j hj) (h2 j hj))
 unfold mx3
 rw[Rat.div_def]
 exact Rat.mul_nonneg h4 (zrz (by
  have:((0:Int):Rat)≤((yr:Int):Rat):=Rat.intCast_le_intCast.2 (by omega)
  exact this))
end Go.Proofs.YtffghofheeleeaaGreatDoor
