/- Kinds of risks, as the Go text of package credit reckons with them. -/
import Derived.Deep.DeepHandedRow
import Derived.Shelf.Abstract
import Derived.Test.YtloojmaamaambaaGreatDoorKBJB
import Derived.Test.YtloojmaamaambaaGreatDoorKBJE
import Derived.Test.YtloojmaamaambaaGreatDoorKBQ8a
namespace Go.Proofs.YtloojmaamaambaaGreatDoor
open Go.RowKit

def kdAt (ks : List Kd) (k : Nat) : Kd:=ks[k]?.getD ⟨0,0,0⟩
/-- the numbers of a kind that lie in their places themselves -/
def KdOk (s1 : Bool) (x1 y1 : Int) (p1 : Option Addr) (s2 : Bool) (x2 y2 : Int) (p2 : Option Addr) (s3 : Bool) (x3 y3 : Int) (p3 : Option Addr) (k : Kd) : Prop:=(∀ W,FracAt W (.agg #[.bool s1,.int .u64 x1,.int .u64 y1,.pointer p1]) k.ch)∧(∀ W,FracAt W (.agg #[.bool s2,.int .u64 x2,.int .u64 y2,.pointer p2]) k.me)∧∀ W,FracAt W (.agg #[.bool s3,.int .u64 x3,.int .u64 y3,.pointer p3]) k.sp
set_option maxHeartbeats 8000000 in
set_option maxRecDepth 100000 in
theorem kOne_any (s1 : Bool) (x1 y1 : Int) (p1 : Option Addr) (s2 : Bool) (x2 y2 : Int) (p2 : Option Addr) (s3 : Bool) (x3 y3 : Int) (p3 : Option Addr) (k : Kd) (w : World) (_hk : KdOk s1 x1 y1 p1 s2 x2 y2 p2 s3 x3 y3 p3 k) :
  Calls Tryz.prog 159 #[.agg #[.bool s1,.int .u64 x1,.int .u64 y1,.pointer p1,.bool s2,.int .u64 x2,.int .u64 y2,.pointer p2,.bool s3,.int .u64 x3,.int .u64 y3,.pointer p3]] w fun e w' => ∃ v,e = .returned v∧FracAt w' v ((1 : Int) : Rat)∧But [] w w':=by
 obtain ⟨ws,wx,FW,CW⟩:=whole_is 1 (by omega) (by omega)
 have HCW:=hide CW
 have HFW:=hide FW
 clear FW CW
 obtain ⟨A,hA⟩ : ∃ A,A = w.alloc (.cells #[.bool s1,.int .u64 x1,.int .u64 y1,.pointer p1,.bool s2,.int .u64 x2,.int .u64 y2,.pointer p2,.bool s3,.int .u64 x3,.int .u64 y3,.pointer p3] 79):=⟨_,rfl⟩
 obtain ⟨W,hW⟩ : ∃ W,W = A.alloc (.cells #[.bool false,.int .u64 0,.int .u64 0,.pointer none] 29):=⟨_,rfl⟩
 have sA : A.heap.size = w.heap.size + 1:=by rw [hA]; simp
 have bA : But [] w A:=by rw [hA]; exact (But.refl _ _).alloc _
 have bW : But [] A W:=by rw [hW]; exact (But.refl _ _).alloc _
 have xR : BoxAt W (w.heap.size + 1) 0:=by
  rw [hW,← sA]
  exact BoxAt.new A false 0 0 none 0 29 (zero_at _)
 have XR:=hide xR
 have BW:=hide (bA.trans' bW)
 clear bA bW xR
 go_enter Tryz.func159,Tryz.ntmps159
 go_wp2_with fail
 rw [← hA,← hW]
 refine (unhide HCW _).mono ?_
 rintro e w1 ⟨rfl,hb1⟩
 have B1:=hide ((unhide BW).trans' hb1)
 have X1:=hide ((unhide XR).but hb1)
 clear hb1 BW XR HCW hA hW sA
 generalize hg1 : w.heap.size + 1 = g1 at *
 obtain ⟨⟨t3,a3,b3,q3,⟨c0,c1,c2,c3⟩,-⟩,z3⟩:=unhide X1
 have P2 : Hid (P4 w1 g1 t3 a3 b3 q3):=⟨c0,c1,c2,c3⟩
 go_wp2
 have hP:=put4_but w1 g1 ws wx 0 none
 obtain ⟨m0,m1,m2,m3⟩:=put4_p4 w1 g1 ws wx 0 none (unhide P2)
 have hF : But [] w (put4 w1 g1 ws wx 0 none):=(unhide B1).trans hP (fun x hx => by simp at hx; subst hx; exact .inr (by omega))
 have hff:=(unhide HFW w1).over ((unhide P2)).1 hP
 change bodyPost _ _ _ _ _ (put4 w1 g1 ws wx 0 none)
 generalize put4 w1 g1 ws wx 0 none = F at *
 exact bodyPost_ret (v:=.agg #[.bool ws,.int .u64 wx,.int .u64 0,.pointer none]) (by simp [results,Tryz.results159,go_sem,m0,m1,m2,m3]) rfl ⟨_,rfl,hff,hF⟩
set_option maxHeartbeats 8000000 in
set_option maxRecDepth 100000 in
theorem kMean_any (s1 : Bool) (x1 y1 : Int) (p1 : Option Addr) (s2 : Bool) (x2 y2 : Int) (p2 : Option Addr) (s3 : Bool) (x3 y3 : Int) (p3 : Option Addr) (k : Kd) (w : World) (hk : KdOk s1 x1 y1 p1 s2 x2 y2 p2 s3 x3 y3 p3 k) :
  Calls Tryz.prog 160 #[.agg #[.bool s1,.int .u64 x1,.int .u64 y1,.pointer p1,.bool s2,.int .u64 x2,.int .u64 y2,.pointer p2,.bool s3,.int .u64 x3,.int .u64 y3,.pointer p3]] w fun e w' => ∃ v,e = .returned v∧FracAt w' v k.me∧But [] w w':=by
 have HF:=hide hk.2.1
 clear hk
 obtain ⟨A,hA⟩ : ∃ A,A = w.alloc (.cells #[.bool s1,.int .u64 x1,.int .u64 y1,.pointer p1,.bool s2,.int .u64 x2,.int .u64 y2,.pointer p2,.bool s3,.int .u64 x3,.int .u64 y3,.pointer p3] 79):=⟨_,rfl⟩
 obtain ⟨W,hW⟩ : ∃ W,W = A.alloc (.cells #[.bool false,.int .u64 0,.int .u64 0,.pointer none] 29):=⟨_,rfl⟩
 have sA : A.heap.size = w.heap.size + 1:=by rw [hA]; simp
 have bA : But [] w A:=by rw [hA]; exact (But.refl _ _).alloc _
 have bW : But [] A W:=by rw [hW]; exact (But.refl _ _).alloc _
 have xR : BoxAt W (w.heap.size + 1) 0:=by
  rw [hW,← sA]
  exact BoxAt.new A false 0 0 none 0 29 (zero_at _)
 have XR:=hide xR
 have BW:=hide (bA.trans' bW)
 clear bA bW xR
 go_enter Tryz.func160,Tryz.ntmps160
 go_wp2
 have X1:=unhide XR
 obtain ⟨⟨t3,a3,b3,q3,P2,-⟩,z3⟩:=X1
 rw [hW,hA] at P2 z3
 rw [hW,hA] at BW
 obtain ⟨V,hV⟩ : ∃ V,V = (w.alloc (.cells #[.bool s1,.int .u64 x1,.int .u64 y1,.pointer p1,.bool s2,.int .u64 x2,.int .u64 y2,.pointer p2,.bool s3,.int .u64 x3,.int .u64 y3,.pointer p3] 79)).alloc (.cells #[.bool s2,.int .u64 x2,.int .u64 y2,.pointer p2] 29):=⟨_,rfl⟩
 have bV : But [] w V:=by rw [hV]; exact ((But.refl _ _).alloc _).alloc _
 rw [← hV]
 have m : P4 V (w.heap.size + 1) s2 x2 y2 p2:=by
  have h:=BoxAt.new (w.alloc (.cells #[.bool s1,.int .u64 x1,.int .u64 y1,.pointer p1,.bool s2,.int .u64 x2,.int .u64 y2,.pointer p2,.bool s3,.int .u64 x3,.int .u64 y3,.pointer p3] 79)) s2 x2 y2 p2 _ 29 (unhide HF _)
  rw [hV]
  rw [hA] at sA
  rw [← sA]
  exact ⟨by simp,by simp,by simp,by simp⟩
 obtain ⟨m0,m1,m2,m3⟩:=m
 exact bodyPost_ret (v:=.agg #[.bool s2,.int .u64 x2,.int .u64 y2,.pointer p2]) (by simp [results,Tryz.results160,go_sem,m0,m1,m2,m3]) rfl ⟨_,rfl,unhide HF V,bV⟩
set_option maxHeartbeats 8000000 in
set_option maxRecDepth 100000 in
theorem kSpread_any (s1 : Bool) (x1 y1 : Int) (p1 : Option Addr) (s2 : Bool) (x2 y2 : Int) (p2 : Option Addr) (s3 : Bool) (x3 y3 : Int) (p3 : Option Addr) (k : Kd) (w : World) (hk : KdOk s1 x1 y1 p1 s2 x2 y2 p2 s3 x3 y3 p3 k) :
  Calls Tryz.prog 163 #[.agg #[.bool s1,.int .u64 x1,.int .u64 y1,.pointer p1,.bool s2,.int .u64 x2,.int .u64 y2,.pointer p2,.bool s3,.int .u64 x3,.int .u64 y3,.pointer p3]] w fun e w' => ∃ v,e = .returned v∧FracAt w' v k.sp∧But [] w w':=by
 have HF:=hide hk.2.2
 clear hk
 obtain ⟨A,hA⟩ : ∃ A,A = w.alloc (.cells #[.bool s1,.int .u64 x1,.int .u64 y1,.pointer p1,.bool s2,.int .u64 x2,.int .u64 y2,.pointer p2,.bool s3,.int .u64 x3,.int .u64 y3,.pointer p3] 79):=⟨_,rfl⟩
 obtain ⟨W,hW⟩ : ∃ W,W = A.alloc (.cells #[.bool false,.int .u64 0,.int .u64 0,.pointer none] 29):=⟨_,rfl⟩
 have sA : A.heap.size = w.heap.size + 1:=by rw [hA]; simp
 have bA : But [] w A:=by rw [hA]; exact (But.refl _ _).alloc _
 have bW : But [] A W:=by rw [hW]; exact (But.refl _ _).alloc _
 have xR : BoxAt W (w.heap.size + 1) 0:=by
  rw [hW,← sA]
  exact BoxAt.new A false 0 0 none 0 29 (zero_at _)
 have XR:=hide xR
 have BW:=hide (bA.trans' bW)
 clear bA bW xR
 go_enter Tryz.func163,Tryz.ntmps163
 go_wp2
 have X1:=unhide XR
 obtain ⟨⟨t3,a3,b3,q3,P2,-⟩,z3⟩:=X1
 rw [hW,hA] at P2 z3
 rw [hW,hA] at BW
 obtain ⟨V,hV⟩ : ∃ V,V = (w.alloc (.cells #[.bool s1,.int .u64 x1,.int .u64 y1,.pointer p1,.bool s2,.int .u64 x2,.int .u64 y2,.pointer p2,.bool s3,.int .u64 x3,.int .u64 y3,.pointer p3] 79)).alloc (.cells #[.bool s3,.int .u64 x3,.int .u64 y3,.pointer p3] 29):=⟨_,rfl⟩
 have bV : But [] w V:=by rw [hV]; exact ((But.refl _ _).alloc _).alloc _
 rw [← hV]
 have m : P4 V (w.heap.size + 1) s3 x3 y3 p3:=by
  have h:=BoxAt.new (w.alloc (.cells #[.bool s1,.int .u64 x1,.int .u64 y1,.pointer p1,.bool s2,.int .u64 x2,.int .u64 y2,.pointer p2,.bool s3,.int .u64 x3,.int .u64 y3,.pointer p3] 79)) s3 x3 y3 p3 _ 29 (unhide HF _)
  rw [hV]
  rw [hA] at sA
  rw [← sA]
  exact ⟨by simp,by simp,by simp,by simp⟩
 obtain ⟨m0,m1,m2,m3⟩:=m
 exact bodyPost_ret (v:=.agg #[.bool s3,.int .u64 x3,.int .u64 y3,.pointer p3]) (by simp [results,Tryz.results163,go_sem,m0,m1,m2,m3]) rfl ⟨_,rfl,unhide HF V,bV⟩
set_option maxHeartbeats 8000000 in
set_option maxRecDepth 100000 in
theorem kSquare_any (s1 : Bool) (x1 y1 : Int) (p1 : Option Addr) (s2 : Bool) (x2 y2 : Int) (p2 : Option Addr) (s3 : Bool) (x3 y3 : Int) (p3 : Option Addr) (k : Kd) (w : World) (hk : KdOk s1 x1 y1 p1 s2 x2 y2 p2 s3 x3 y3 p3 k) (lk : Len k.me 100) :
  Calls Tryz.prog 161 #[.agg #[.bool s1,.int .u64 x1,.int .u64 y1,.pointer p1,.bool s2,.int .u64 x2,.int .u64 y2,.pointer p2,.bool s3,.int .u64 x3,.int .u64 y3,.pointer p3]] w fun e w' => ∃ v,e = .returned v∧FracAt w' v (k.me * k.me)∧But [] w w':=by
 have SQ:=hide (fun W => square_any _ k.me W (hk.2.1 W) (lk.mono (by omega)))
 generalize k.me * k.me = ff at *
 clear hk lk
 obtain ⟨A,hA⟩ : ∃ A,A = w.alloc (.cells #[.bool s1,.int .u64 x1,.int .u64 y1,.pointer p1,.bool s2,.int .u64 x2,.int .u64 y2,.pointer p2,.bool s3,.int .u64 x3,.int .u64 y3,.pointer p3] 79):=⟨_,rfl⟩
 obtain ⟨W,hW⟩ : ∃ W,W = A.alloc (.cells #[.bool false,.int .u64 0,.int .u64 0,.pointer none] 29):=⟨_,rfl⟩
 have sA : A.heap.size = w.heap.size + 1:=by rw [hA]; simp
 have bA : But [] w A:=by rw [hA]; exact (But.refl _ _).alloc _
 have bW : But [] A W:=by rw [hW]; exact (But.refl _ _).alloc _
 have xR : BoxAt W (w.heap.size + 1) 0:=by
  rw [hW,← sA]
  exact BoxAt.new A false 0 0 none 0 29 (zero_at _)
 have XR:=hide xR
 have BW:=hide (bA.trans' bW)
 clear bA bW xR
 go_enter Tryz.func161,Tryz.ntmps161
 go_wp2_with fail
 rw [← hA,← hW]
 refine (unhide SQ _).mono ?_
 rintro e w1 ⟨v1,rfl,hf1,hb1⟩
 have B1:=hide ((unhide BW).trans' hb1)
 have X1:=hide ((unhide XR).but hb1)
 obtain ⟨x5,y5,p5,rfl,-⟩:=id hf1.agg
 generalize decide (ff.num < 0) = s5 at *
 have HF1:=hide hf1
 clear hb1 hf1 BW XR SQ hA hW sA
 generalize hg1 : w.heap.size + 1 = g1 at *
 obtain ⟨⟨t3,a3,b3,q3,⟨c0,c1,c2,c3⟩,-⟩,z3⟩:=unhide X1
 have P2 : Hid (P4 w1 g1 t3 a3 b3 q3):=⟨c0,c1,c2,c3⟩
 go_wp2
 have hP:=put4_but w1 g1 s5 x5 y5 p5
 obtain ⟨m0,m1,m2,m3⟩:=put4_p4 w1 g1 s5 x5 y5 p5 (unhide P2)
 have hF : But [] w (put4 w1 g1 s5 x5 y5 p5):=(unhide B1).trans hP (fun x hx => by simp at hx; subst hx; exact .inr (by omega))
 have hff:=(unhide HF1).over ((unhide P2)).1 hP
 change bodyPost _ _ _ _ _ (put4 w1 g1 s5 x5 y5 p5)
 generalize put4 w1 g1 s5 x5 y5 p5 = F at *
 exact bodyPost_ret (v:=.agg #[.bool s5,.int .u64 x5,.int .u64 y5,.pointer p5]) (by simp [results,Tryz.results161,go_sem,m0,m1,m2,m3]) rfl ⟨_,rfl,hff,hF⟩
/-- the mean of what hangs on the kind, of the first k kinds -/
def mkR (ks : List Kd) (g : Kd→Rat) : Nat→Rat:=sgR (fun j => (kdAt ks j).ch * g (kdAt ks j))
theorem len_mkR (ks : List Kd) (g : Kd→Rat) (n c : Nat) (h1 : ∀ k,k < n→Len (kdAt ks k).ch 1) (h2 : ∀ k,k < n→Len (g (kdAt ks k)) c) : ∀ k,k ≤ n→Len (mkR ks g k) (k * (c + 2) + 1)
 | 0,_ => len_zero _ (by omega)
 | k + 1,hk => by
  have ih:=len_mkR ks g n c h1 h2 k (by omega)
  show Len (mkR ks g k + (kdAt ks k).ch * g (kdAt ks k)) _
  exact len_add ih (len_mul (h1 k (by omega)) (h2 k (by omega)) (c + 1) (by omega)) _ (by rw [Nat.succ_mul]; omega)
set_option maxHeartbeats 16000000 in
set_option maxRecDepth 100000 in
theorem meanOf_any (q : Option Addr) (n cap : Nat) (ks : List Kd) (g : Kd→Rat) (c : Nat) (fo : FuncId) (w : World) (hv : KindsAt w (.slice q n cap) ks) (hN : n = ks.length) (hn : n ≤ 40) (hc : c ≤ 10) (h1 : ∀ k,k < n→Len (kdAt ks k).ch 1) (h2 : ∀ k,k < n→Len (g (kdAt ks k)) c)
  (EN : ∀ args W,(callFunc fo args).run Tryz.prog W = .ok (.enter fo args) W)
  (OF : ∀ s1 x1 y1 p1 s2 x2 y2 p2 s3 x3 y3 p3 k W,k < n→KdOk s1 x1 y1 p1 s2 x2 y2 p2 s3 x3 y3 p3 (kdAt ks k)→Calls Tryz.prog fo #[.agg #[.bool s1,.int .u64 x1,.int .u64 y1,.pointer p1,.bool s2,.int .u64 x2,.int .u64 y2,.pointer p2,.bool s3,.int .u64 x3,.int .u64 y3,.pointer p3]] W fun e w' => ∃ v,e = .returned v∧FracAt w' v (g (kdAt ks k))∧But [] W w') :
  Calls Tryz.prog 158 #[.slice q n cap,.func (.func fo) #[] #[]] w fun e w' => ∃ v,e = .returned v∧FracAt w' v (mkR ks g n)∧But [] w w':=by
 have HV:=hide hv
 have HN:=hide hN
 have HEN:=hide EN
 have HOF:=hide OF
 have LM:=hide (len_mkR ks g n c h1 h2)
 have L1:=hide h1
 have L2:=hide h2
 clear hv hN EN OF h1 h2
 obtain ⟨A,hA⟩ : ∃ A,A = w.alloc (.cells #[.bool false,.int .u64 0,.int .u64 0,.pointer none] 29):=⟨_,rfl⟩
 obtain ⟨W,hW⟩ : ∃ W,W = A.alloc (.cells #[.bool false,.int .u64 0,.int .u64 0,.pointer none] 29):=⟨_,rfl⟩
 have sA : A.heap.size = w.heap.size + 1:=by rw [hA]; simp
 have bA : But [] w A:=by rw [hA]; exact (But.refl _ _).alloc _
 have bW : But [] A W:=by rw [hW]; exact (But.refl _ _).alloc _
 have x2 : BoxAt W w.heap.size 0:=by
  have h:=BoxAt.new w false 0 0 none 0 29 (zero_at _)
  rw [← hA] at h
  exact h.but bW
 have x3 : BoxAt W (w.heap.size + 1) 0:=by
  rw [hW,← sA]
  exact BoxAt.new A false 0 0 none 0 29 (zero_at _)
 have X2:=hide x2
 have X3:=hide x3
 have BW:=hide (bA.trans' bW)
 clear x2 x3 bA bW
 go_enter Tryz.func158,Tryz.ntmps158
 go_wp2
 rw [← hA,← hW]
 clear hA hW sA
 generalize hg3 : w.heap.size + 1 = g5 at *
 generalize hg2 : w.heap.size = g4 at *
 go_loopw [10] (fun iv wr => ∃ k : Nat,k ≤ n∧iv = .int .i64 (k : Int)∧Hid (BoxAt wr g5 (mkR ks g k)∧BoxAt wr g4 0∧But [] w wr)) (fun iv _ => n - (intOf iv).toNat)
 case atStart => exact ⟨0,Nat.zero_le _,rfl,unhide X3,unhide X2,unhide BW⟩
 case round =>
  obtain ⟨k,hk,rfl,HI⟩:=hrel
  rename World => wr
  clear X2 X3 BW
  by_cases hlt : k < n
  ·have hkk : ks[k]? = some (kdAt ks k):=by
    unfold kdAt
    rw [List.getElem?_eq_getElem (by have:=unhide HN; omega)]; rfl
   obtain ⟨b,off,s1,x1,y1,p1,s2,x2,y2,p2,s3,x3,y3,p3,rfl,kc,hok⟩:=((unhide HV).but (unhide HI).2.2).get k hlt _ hkk
   have HOK : Hid (KdOk s1 x1 y1 p1 s2 x2 y2 p2 s3 x3 y3 p3 (kdAt ks k)):=hok
   have r0 : wr.cell? ⟨b,off + k * 12,none⟩ = some (.bool s1):=kc.1.1
   have r1 : wr.cell? ⟨b,off + k * 12 + 1,none⟩ = some (.int .u64 x1):=kc.1.2.1
   have r2 : wr.cell? ⟨b,off + k * 12 + 2,none⟩ = some (.int .u64 y1):=kc.1.2.2.1
   have r3 : wr.cell? ⟨b,off + k * 12 + 3,none⟩ = some (.pointer p1):=kc.1.2.2.2
   have r4 : wr.cell? ⟨b,off + k * 12 + 4,none⟩ = some (.bool s2):=kc.2.1.1
   have r5 : wr.cell? ⟨b,off + k * 12 + 5,none⟩ = some (.int .u64 x2):=kc.2.1.2.1
   have r6 : wr.cell? ⟨b,off + k * 12 + 6,none⟩ = some (.int .u64 y2):=kc.2.1.2.2.1
   have r7 : wr.cell? ⟨b,off + k * 12 + 7,none⟩ = some (.pointer p2):=kc.2.1.2.2.2
   have r8 : wr.cell? ⟨b,off + k * 12 + 8,none⟩ = some (.bool s3):=kc.2.2.1
   have r9 : wr.cell? ⟨b,off + k * 12 + 9,none⟩ = some (.int .u64 x3):=kc.2.2.2.1
   have r10 : wr.cell? ⟨b,off + k * 12 + 10,none⟩ = some (.int .u64 y3):=kc.2.2.2.2.1
   have r11 : wr.cell? ⟨b,off + k * 12 + 11,none⟩ = some (.pointer p3):=kc.2.2.2.2.2
   clear kc hok hkk
   go_wp2
   have bA : But [] wr (wr.alloc (.cells #[.bool s1,.int .u64 x1,.int .u64 y1,.pointer p1,.bool s2,.int .u64 x2,.int .u64 y2,.pointer p2,.bool s3,.int .u64 x3,.int .u64 y3,.pointer p3] 79)):=(But.refl _ _).alloc _
   have kd : K12 (wr.alloc (.cells #[.bool s1,.int .u64 x1,.int .u64 y1,.pointer p1,.bool s2,.int .u64 x2,.int .u64 y2,.pointer p2,.bool s3,.int .u64 x3,.int .u64 y3,.pointer p3] 79)) wr.heap.size 0 s1 x1 y1 p1 s2 x2 y2 p2 s3 x3 y3 p3:=⟨⟨by simp,by simp,by simp,by simp⟩,⟨by simp,by simp,by simp,by simp⟩,⟨by simp,by simp,by simp,by simp⟩⟩
   have D5:=hide ((unhide HI).1.but bA)
   have D4:=hide ((unhide HI).2.1.but bA)
   have DB:=hide ((unhide HI).2.2.trans' bA)
   clear bA r0 r1 r2 r3 r4 r5 r6 r7 r8 r9 r10 r11 HI
   generalize wr.heap.size = g7 at *
   generalize wr.alloc (.cells #[.bool s1,.int .u64 x1,.int .u64 y1,.pointer p1,.bool s2,.int .u64 x2,.int .u64 y2,.pointer p2,.bool s3,.int .u64 x3,.int .u64 y3,.pointer p3] 79) = U at *
   obtain ⟨⟨t5,a5,b5,q5,c5,hf5⟩,z5⟩:=unhide D5
   have l1:=unhide L1 k hlt
   have l2:=unhide L2 k hlt
   have hkc : k * (c + 2) ≤ 40 * 12:=Nat.mul_le_mul (by omega) (by omega)
   have lm:=(unhide LM k (by omega)).mono (show k * (c + 2) + 1 ≤ 1000 by omega)
   refine meanOf_region 5 _ _ U g7 t5 a5 b5 q5 s1 x1 y1 p1 s2 x2 y2 p2 s3 x3 y3 p3 fo _ _ _ g5 (by simp) (by simp [Act.eval]) c5 z5 (by simp [Act.eval]) (by simp [Act.eval]) c5 kd (unhide HEN) (fun w' hb => unhide HOF s1 x1 y1 p1 s2 x2 y2 p2 s3 x3 y3 p3 k w' hlt (unhide HOK)) (fun w' hb v' hv' => fracMul_any _ _ _ _ w' ((unhide HOK).1 w') hv' (l1.mono (by omega)) (l2.mono (by omega))) (fun w' hb v' hv' => fracAdd_any _ _ _ _ w' (hf5.but hb) hv' (lm.mono (by omega)) ((len_mul l1 l2 (c + 1) (by omega)).mono (by omega))) ?_
   intro w7 v5 v6 s7 x7 y7 p7 hb7 hfz
   simp only [putted,List.foldl_cons,List.foldl_nil,Act.put,List.setIfInBounds_toArray,List.set_cons_zero,List.set_cons_succ]
   change FracAt w7 _ (mkR ks g (k + 1)) at hfz
   have hP:=put4_but w7 g5 s7 x7 y7 p7
   have J5:=hide (((unhide D5).but hb7).put hfz)
   have J4:=hide (((unhide D4).but hb7).beside hP (by simp; omega) (fun g hg => by simp at hg; subst hg; exact ((unhide D5).but hb7).bool))
   have JB:=hide (((unhide DB).trans' hb7).trans hP (fun x hx => by simp at hx; subst hx; exact .inr (by omega)))
   generalize put4 w7 g5 s7 x7 y7 p7 = V7 at *
   clear hP hfz hb7 D5 D4 DB c5 hf5 z5 lm l1 l2 hkc kd HOK
   go_wp2
   exact ⟨⟨k + 1,by omega,by go_num,unhide J5,unhide J4,unhide JB⟩,by simp [intOf]; omega⟩
  ·obtain rfl : k = n:=by omega
   obtain ⟨⟨⟨t6,a6,b6,q6,⟨d0,d1,d2,d3⟩,hf6⟩,z6⟩,⟨⟨t2,a2,b2,q2,⟨c0,c1,c2,c3⟩,-⟩,z2⟩,hbw⟩:=unhide HI
   have HF6:=hide hf6
   have HBW:=hide hbw
   have P2 : Hid (P4 wr g4 t2 a2 b2 q2):=⟨c0,c1,c2,c3⟩
   clear HI hf6 hbw
   go_wp2
   have hP:=put4_but wr g4 t6 a6 b6 q6
   obtain ⟨m0,m1,m2,m3⟩:=put4_p4 wr g4 t6 a6 b6 q6 (unhide P2)
   have hF : But [] w (put4 wr g4 t6 a6 b6 q6):=(unhide HBW).trans hP (fun x hx => by simp at hx; subst hx; exact .inr (by omega))
   have hff:=(unhide HF6).over ((unhide P2)).1 hP
   change bodyPost _ _ _ _ _ (put4 wr g4 t6 a6 b6 q6)
   generalize put4 wr g4 t6 a6 b6 q6 = F at *
   exact bodyPost_ret (v:=.agg #[.bool t6,.int .u64 a6,.int .u64 b6,.pointer q6]) (by simp [results,Tryz.results158,go_sem,m0,m1,m2,m3]) rfl ⟨_,rfl,hff,hF⟩
end Go.Proofs.YtloojmaamaambaaGreatDoor

namespace Go.Proofs.YtloojmaamaambaaGreatDoor
open Go.RowKit

set_option maxHeartbeats 8000000 in
set_option maxRecDepth 100000 in
theorem like_len (va vb : Value) (f : Rat) (w : World) (ha : FracAt w va f) (hb : FracAt w vb f) (hl : Len f 1000000) (htab : Lib.TabIs Tryz.prog w "internal/strconv.uint64pow10" .u64 Lib.pow10Tab) :
  Calls Tryz.prog 21 #[va,vb] w fun e w' => e = .returned (.bool true)∧But [] w w':=by
 have hl2 : Len f 33554431:=⟨Nat.le_trans hl.1 (by omega),Nat.le_trans hl.2 (by omega)⟩
 obtain ⟨t,ht⟩ : ∃ t,t = fracTxt (decide (f.num < 0)) f.num.natAbs f.den:=⟨_,rfl⟩
 have CM : Hid (∀ W,But [] w W→Calls Tryz.prog 25 #[va,vb] W fun e w' => e = .returned (.int .i64 0)∧But [] W w'):=fun W h => fracCmp_any va vb f f W (ha.but h) (hb.but h) hl2 hl2 0 (by show _ = _; simp [cmpZ])
 have TA : Hid (∀ W,But [] w W→Calls Tryz.prog 59 #[va] W fun e w' => e = .returned (.string t)∧But [] W w'):=fun W h => fracText_len va f W (ha.but h) hl (TabIs.but htab h) t ht
 have TB : Hid (∀ W,But [] w W→Calls Tryz.prog 59 #[vb] W fun e w' => e = .returned (.string t)∧But [] W w'):=fun W h => fracText_len vb f W (hb.but h) hl (TabIs.but htab h) t ht
 obtain ⟨x1,y1,p1,rfl,-⟩:=ha.agg
 obtain ⟨x2,y2,p2,rfl,-⟩:=hb.agg
 clear ha hb hl hl2 ht htab
 generalize hs : decide (f.num < 0) = s at *
 clear hs
 obtain ⟨W,hW⟩ : ∃ W,W = ((w.alloc (.cells #[.bool s,.int .u64 x1,.int .u64 y1,.pointer p1] 29)).alloc (.cells #[.bool s,.int .u64 x2,.int .u64 y2,.pointer p2] 29)):=⟨_,rfl⟩
 obtain ⟨tA,tB,-,hB⟩:=two_new w W _ _ _ hW
 have a0:=tA 0
 have a1:=tA 1
 have a2:=tA 2
 have a3:=tA 3
 have b0:=tB 0
 have b1:=tB 1
 have b2:=tB 2
 have b3:=tB 3
 simp only [List.getElem?_toArray,List.getElem?_cons_zero,List.getElem?_cons_succ] at a0 a1 a2 a3 b0 b1 b2 b3
 clear tA tB
 have HW:=hide hW
 have HB:=hide hB
 clear hW hB
 go_enter Tryz.func21,Tryz.ntmps21
 go_wp2
 rw [← unhide HW]
 obtain ⟨ga,hga⟩ : ∃ ga,ga = w.heap.size:=⟨_,rfl⟩
 obtain ⟨gb,hgb⟩ : ∃ gb,gb = w.heap.size + 1:=⟨_,rfl⟩
 rw [← hga] at a0 a1 a2 a3
 rw [← hgb] at b0 b1 b2 b3
 rw [← hgb,← hga]
 clear hga hgb HW
 go_region_held (fun w' => w'.cell? ⟨ga,0,none⟩ = some (.bool s)∧w'.cell? ⟨ga,1,none⟩ = some (.int .u64 x1)∧w'.cell? ⟨ga,2,none⟩ = some (.int .u64 y1)∧w'.cell? ⟨ga,3,none⟩ = some (.pointer p1)∧w'.cell? ⟨gb,0,none⟩ = some (.bool s)∧w'.cell? ⟨gb,1,none⟩ = some (.int .u64 x2)∧w'.cell? ⟨gb,2,none⟩ = some (.int .u64 y2)∧w'.cell? ⟨gb,3,none⟩ = some (.pointer p2)) (go_keep) (first
  | (go_at_call 59; have hchk:=B2; clear hchk; refine (unhide TB _ (by first | exact (unhide HB).trans' B2 | exact ((unhide HB).trans' B2).drew)).mono ?_; rintro e w3 ⟨rfl,hc3⟩; have B3 : But [] W w3:=(by first | exact B2.trans' hc3 | exact (B2.drew).trans' hc3); clear hc3; have a0_3:=B3.cell_some a0 (by simp); have a1_3:=B3.cell_some a1 (by simp); have a2_3:=B3.cell_some a2 (by simp); have a3_3:=B3.cell_some a3 (by simp); have b0_3:=B3.cell_some b0 (by simp); have b1_3:=B3.cell_some b1 (by simp); have b2_3:=B3.cell_some b2 (by simp); have b3_3:=B3.cell_some b3 (by simp); clear a0_2 a1_2 a2_2 a3_2 b0_2 b1_2 b2_2 b3_2)
  | (go_at_call 59; have hchk:=B1; clear hchk; refine (unhide TA _ (by first | exact (unhide HB).trans' B1 | exact ((unhide HB).trans' B1).drew)).mono ?_; rintro e w2 ⟨rfl,hc2⟩; have B2 : But [] W w2:=(by first | exact B1.trans' hc2 | exact (B1.drew).trans' hc2); clear hc2; have a0_2:=B2.cell_some a0 (by simp); have a1_2:=B2.cell_some a1 (by simp); have a2_2:=B2.cell_some a2 (by simp); have a3_2:=B2.cell_some a3 (by simp); have b0_2:=B2.cell_some b0 (by simp); have b1_2:=B2.cell_some b1 (by simp); have b2_2:=B2.cell_some b2 (by simp); have b3_2:=B2.cell_some b3 (by simp); clear a0_1 a1_1 a2_1 a3_1 b0_1 b1_1 b2_1 b3_1)
  | (go_at_call 25; refine (unhide CM _ (by first | exact unhide HB | exact (unhide HB).drew)).mono ?_; rintro e w1 ⟨rfl,hc1⟩; have B1 : But [] W w1:=(by first | exact hc1 | exact (But.refl _ _).drew.trans' hc1); clear hc1; have a0_1:=B1.cell_some a0 (by simp); have a1_1:=B1.cell_some a1 (by simp); have a2_1:=B1.cell_some a2 (by simp); have a3_1:=B1.cell_some a3 (by simp); have b0_1:=B1.cell_some b0 (by simp); have b1_1:=B1.cell_some b1 (by simp); have b2_1:=B1.cell_some b2 (by simp); have b3_1:=B1.cell_some b3 (by simp)))
 have HB3 : Hid (But [] w w3):=(unhide HB).trans' B3
 clear B1 B2 B3
 go_wp2
 go_ret
 exact ⟨rfl,unhide HB3⟩
end Go.Proofs.YtloojmaamaambaaGreatDoor

namespace Go.Proofs.YtloojmaamaambaaGreatDoor
open Go.RowKit

/-- the slice v holds rows of pairs -/
def QrowsAt (w : World) (v : Value) (rs : List (List (Int × Int))) : Prop:=∃ a cap,v = .slice a rs.length cap∧∀ i r,rs[i]? = some r→∃ b off u,a = some ⟨b,off,none⟩∧w.cell? ⟨b,off + i,none⟩ = some u∧QsAt w u r
theorem QrowsAt.but {w w' : World} {v : Value} {rs : List (List (Int × Int))} (h : QrowsAt w v rs) (hb : But [] w w') : QrowsAt w' v rs:=by
 obtain ⟨a,cap,e,h⟩:=h
 refine ⟨a,cap,e,fun i r hr => ?_⟩
 obtain ⟨b,off,u,e1,h1,h2⟩:=h i r hr
 exact ⟨b,off,u,e1,hb.cell_some h1 (by simp),h2.but hb⟩
theorem QrowsAt.at {w : World} {q : Option Addr} {n cap : Nat} {rs : List (List (Int × Int))} (h : QrowsAt w (.slice q n cap) rs) (i : Nat) (hi : i < n) : ∃ b off a c,q = some ⟨b,off,none⟩∧w.cell? ⟨b,off + i,none⟩ = some (.slice a (rs[i]?.getD []).length c)∧QsAt w (.slice a (rs[i]?.getD []).length c) (rs[i]?.getD []):=by
 obtain ⟨a,cap',e,h⟩:=h
 simp only [Value.slice.injEq] at e
 obtain ⟨rfl,rfl,-⟩:=e
 obtain ⟨b,off,u,e1,h1,h2⟩:=h i rs[i] (List.getElem?_eq_getElem hi)
 rw [List.getElem?_eq_getElem hi,Option.getD_some]
 obtain ⟨a',c',rfl,h3,h4⟩:=id h2
 exact ⟨b,off,a',c',e1,h1,h2⟩
/-- how many pairs the first k rows hold -/
def totN (rs : List (List (Int × Int))) : Nat→Nat:=sgN (fun j => (rs[j]?.getD []).length)
set_option maxHeartbeats 16000000 in
set_option maxRecDepth 100000 in
theorem few_any (g : Nat) (q : Option Addr) (n cap : Nat) (rs : List (List (Int × Int))) (w : World) (hc : w.cell? ⟨g,0,none⟩ = some (.slice q n cap)) (hv : QrowsAt w (.slice q n cap) rs) (hn : n ≤ 2000000) (ht : ∀ k,k ≤ n→totN rs k ≤ 2000000) :
  Calls Tryz.prog 39 #[.slice (some ⟨g,0,none⟩) 1 1,.int .i64 80] w fun e w' => e = .returned (.bool (decide (1 + n + totN rs n ≤ 80)))∧But [] w w':=by
 obtain ⟨bl,hbl⟩ : ∃ bl,bl = decide (1 + n + totN rs n ≤ 80):=⟨_,rfl⟩
 rw [← hbl]
 have HBL:=hide hbl
 have HV:=hide hv
 have HT:=hide ht
 clear hv ht hbl
 go_enter Tryz.func39,Tryz.ntmps39
 go_wp2
 go_loopw [5,6] (fun nv iv wr => ∃ i t : Nat,i ≤ 1∧iv = .int .i64 (i : Int)∧nv = .int .i64 (t : Int)∧t ≤ 5000000∧Hid (((i = 0∧t = 1) ∨ (i = 1∧t = 1 + n + totN rs n))∧wr = w)) (fun _ iv _ => 1 - (intOf iv).toNat)
 case atStart => exact ⟨0,1,by omega,rfl,rfl,by omega,.inl ⟨rfl,rfl⟩,rfl⟩
 case round =>
  obtain ⟨i,t,hi,rfl,rfl,ht5,HI⟩:=hrel
  rename World => wr
  obtain ⟨hcase,rfl⟩:=unhide HI
  clear HI
  rcases hcase with ⟨rfl,rfl⟩ | ⟨rfl,hte⟩
  ·go_wp2
   go_loopw [5,7] (fun nv kv wr' => ∃ k t : Nat,k ≤ n∧kv = .int .i64 (k : Int)∧nv = .int .i64 (t : Int)∧t ≤ 5000000∧Hid (t = 1 + n + totN rs k∧wr' = wr)) (fun _ kv _ => n - (intOf kv).toNat)
   case atStart => exact ⟨0,1 + n,by omega,rfl,by go_num,by omega,rfl,rfl⟩
   case round =>
    obtain ⟨k,t,hk,rfl,rfl,ht6,HJ⟩:=hrel
    rename World => wj
    obtain ⟨hte,rfl⟩:=unhide HJ
    have HTE:=hide hte
    clear HJ hte
    by_cases hlt : k < n
    ·obtain ⟨b,off,ak,ck,rfl,hck,-⟩:=(unhide HV).at k hlt
     obtain ⟨lk,hlk⟩ : ∃ lk,lk = (rs[k]?.getD []).length:=⟨_,rfl⟩
     rw [← hlk] at hck
     have hs : totN rs (k + 1) = totN rs k + lk:=by rw [hlk]; rfl
     have h1:=unhide HT (k + 1) hlt
     have h2:=unhide HTE
     have hb5 : t + lk ≤ 5000000:=by omega
     have HS:=hide (And.intro hs (And.intro h1 h2))
     clear hlk hs h1 h2
     go_wp2
     refine ⟨⟨k + 1,t + lk,by omega,by go_num,by go_num,hb5,?_,by first | rfl | trivial⟩,by simp [intOf]; omega⟩
     have:=unhide HS
     omega
    ·obtain rfl : k = n:=by omega
     go_wp2
     refine ⟨⟨1,t,by omega,by go_num,rfl,ht6,.inr ⟨rfl,unhide HTE⟩,by first | rfl | trivial⟩,by simp [intOf]⟩
  ·have HTE:=hide hte
   clear hte
   go_wp2
   go_ret
   refine ⟨?_,But.refl _ _⟩
   rw [unhide HBL,← unhide HTE]
   show Ending.returned (.bool (decide ((t : Int) ≤ 80))) = _
   congr 2
   exact decide_eq_decide.2 (by omega)
set_option maxHeartbeats 16000000 in
set_option maxRecDepth 100000 in
theorem keepSumL_any (b off cap n : Nat) (fs : List Rat) (w : World) (hv : FracsAt w (.slice (some ⟨b,off,none⟩) n cap) fs) (hn : n ≤ 1000) (lf : ∀ k,k < n→Len (atR fs k) 499000) (ls : ∀ k,k ≤ n→Len (sgR (atR fs) k) 499000) :
  Calls Tryz.prog 45 #[.slice (some ⟨b,off,none⟩) n cap] w fun e w' => ∃ v,e = .returned v∧FracAt w' v (sgR (atR fs) n)∧But [] w w':=by
 have LA:=hide lf
 have LS:=hide ls
 obtain ⟨ws,wx,FW,CW⟩:=whole_is 0 (by omega) (by omega)
 have HFW:=hide FW
 have HCW:=hide CW
 have HV:=hide hv
 have bA : But [] w (w.alloc (.cells #[.bool false,.int .u64 0,.int .u64 0,.pointer none] 29)):=(But.refl _ _).alloc _
 have X2:=hide (BoxAt.new w false 0 0 none 0 29 (zero_at _))
 have BA:=hide bA
 clear hv bA FW CW lf ls
 go_enter Tryz.func45,Tryz.ntmps45
 go_wp2_with fail
 refine (unhide HCW _).mono ?_
 rintro e w1 ⟨rfl,hb1⟩
 have hal : But [] w1 (w1.alloc (.cells #[.bool ws,.int .u64 wx,.int .u64 0,.pointer none] 29)):=(But.refl _ _).alloc _
 have X21:=hide (((unhide X2).but hb1).but hal)
 have l2 : w.heap.size < w1.heap.size:=by have:=((unhide X2).but hb1).lt; exact this
 have X3:=hide (BoxAt.new w1 ws wx 0 none ((0 : Int) : Rat) 29 (unhide HFW w1))
 have B1:=hide (((unhide BA).trans' hb1).trans' hal)
 clear hb1 hal X2 BA HCW
 go_wp2
 generalize hg3 : w1.heap.size = g3 at *
 generalize w1.alloc (.cells #[.bool ws,.int .u64 wx,.int .u64 0,.pointer none] 29) = V at *
 generalize hg2 : w.heap.size = g2 at *
 go_loopw [4] (fun iv wr => ∃ k : Nat,k ≤ n∧iv = .int .i64 (k : Int)∧Hid (BoxAt wr g3 (sgR (atR fs) k)∧BoxAt wr g2 0∧But [] w wr)) (fun iv _ => n - (intOf iv).toNat)
 case atStart => exact ⟨0,Nat.zero_le _,rfl,unhide X3,unhide X21,unhide B1⟩
 case round =>
  obtain ⟨k,hk,rfl,HI⟩:=hrel
  rename World => wr
  clear X3 X21 B1
  by_cases hlt : k < n
  ·go_wp2
   obtain ⟨⟨⟨t3,a3,b3,q3,k3,f3⟩,z3⟩,hx2,hbw⟩:=unhide HI
   obtain ⟨sr,xr,yr,pr,r0,hfr⟩:=((unhide HV).but hbw).get k hlt
   refine sum_region 5 _ _ wr b off n cap k t3 a3 b3 q3 sr xr yr pr (sgR (atR fs) k) (fs[k]?.getD 0) g3 (by simp) (by simp [Act.eval]) k3 z3 (by simp [Act.eval]) (by simp [Act.eval]) hlt (by omega) k3 r0 (fun w' hb => fracAdd_any _ _ _ _ w' (f3.but hb) (hfr.but hb) ((unhide LS k hk).mono (by omega)) (Len.mono (f:=atR fs k) (unhide LA k hlt) (by omega))) ?_
   intro w2 s5 x5 y5 p5 hb2 hf2
   simp only [putted,List.foldl_cons,List.foldl_nil,Act.put,List.setIfInBounds_toArray,List.set_cons_zero,List.set_cons_succ]
   have hP:=put4_but w2 g3 s5 x5 y5 p5
   have J3:=hide (((unhide HI).1.but hb2).put hf2)
   have J2:=hide ((hx2.but hb2).beside hP (by simp; omega) (fun g hg => by simp at hg; subst hg; exact ((unhide HI).1.but hb2).bool))
   have JB:=hide ((hbw.trans' hb2).trans hP (fun x hx => by simp at hx; subst hx; exact .inr (by omega)))
   generalize put4 w2 g3 s5 x5 y5 p5 = V2 at *
   clear hP hf2 hb2 k3 f3 z3 r0 hfr hx2 hbw HI
   go_wp2
   exact ⟨⟨k + 1,by omega,by go_num,unhide J3,unhide J2,unhide JB⟩,by simp [intOf]; omega⟩
  ·obtain rfl : k = n:=by omega
   obtain ⟨⟨⟨t6,a6,b6,q6',⟨d0,d1,d2,d3⟩,hf6⟩,z6⟩,⟨⟨t2,a2,b2,q2,⟨c0,c1,c2,c3⟩,-⟩,z2⟩,hbw⟩:=unhide HI
   have HF6:=hide hf6
   have HBW:=hide hbw
   have P2 : Hid (P4 wr g2 t2 a2 b2 q2):=⟨c0,c1,c2,c3⟩
   clear HI hf6 hbw
   go_wp2
   have hP:=put4_but wr g2 t6 a6 b6 q6'
   obtain ⟨m0,m1,m2,m3⟩:=put4_p4 wr g2 t6 a6 b6 q6' (unhide P2)
   have hF : But [] w (put4 wr g2 t6 a6 b6 q6'):=(unhide HBW).trans hP (fun x hx => by simp at hx; subst hx; exact .inr (by omega))
   have hff:=(unhide HF6).over (unhide P2).1 hP
   change bodyPost _ _ _ _ _ (put4 wr g2 t6 a6 b6 q6')
   generalize put4 wr g2 t6 a6 b6 q6' = F at *
   exact bodyPost_ret (v:=.agg #[.bool t6,.int .u64 a6,.int .u64 b6,.pointer q6']) (by simp [results,Tryz.results45,go_sem,m0,m1,m2,m3]) rfl ⟨_,rfl,hff,hF⟩
theorem ownsRow_base {w : World} {b0 b1 : Nat} {e : TypeId} {size : Nat} {v : Value} {n : Nat} {xs : List Value} (h : w.ownsRow b1 e size v n xs) (hb : b0 ≤ b1) : w.ownsRow b0 e size v n xs:=by
 refine ⟨h.1,?_⟩
 rcases h.2 with h | ⟨g,cap,cur,e1,h2,h3⟩
 ·exact .inl h
 ·exact .inr ⟨g,cap,cur,e1,Nat.le_trans hb h2,h3⟩
theorem ownsRow_apart {w : World} {b0 b1 : Nat} {e0 e1 : TypeId} {s0 s1 : Nat} {u v : Value} {n m : Nat} {xs ys : List Value} (h0 : w.ownsRow b0 e0 s0 u n xs) (h1 : w.ownsRow b1 e1 s1 v m ys) (hne : e0 ≠ e1) : u.ownBlock = none ∨ u.ownBlock ≠ v.ownBlock:=by
 rcases h0.2 with ⟨rfl,-⟩ | ⟨g,cap,cur,rfl,-,hg,-⟩
 ·exact .inl rfl
 ·rcases h1.2 with ⟨rfl,-⟩ | ⟨g',cap',cur',rfl,-,hg',-⟩
  ·exact .inr (by simp [Value.ownBlock])
  ·refine .inr (fun e => hne ?_)
   simp only [Value.ownBlock,Option.some.injEq] at e
   subst e
   rw [hg] at hg'
   simp only [Option.some.injEq,Obj.cells.injEq] at hg'
   exact hg'.2.1
/-- a row of the call's own that holds fractions which lie in their places themselves -/
structure OwnF (w : World) (base : Nat) (u : Value) (fs : List Rat) (vs : List Value) : Prop where
 own : w.ownsRow base 29 4 u fs.length (parts4 vs)
 len : vs.length = fs.length
 val : ∀ (i : Nat) (f : Rat),fs[i]? = some f→∃ s x y p,vs[i]? = some (Value.agg #[.bool s,.int .u64 x,.int .u64 y,.pointer p])∧∀ W,FracAt W (.agg #[.bool s,.int .u64 x,.int .u64 y,.pointer p]) f
theorem OwnF.fracs {w : World} {base : Nat} {u : Value} {fs : List Rat} {vs : List Value} (h : OwnF w base u fs vs) : FracsAt w u fs :=
 Holds4.fracs (base:=base) (e:=29) (vs:=vs) ⟨h.own,h.len,fun i f hf => by
  obtain ⟨s,x,y,p,h1,h2⟩:=h.val i f hf
  exact ⟨s,x,y,p,h1,h2 w⟩⟩
theorem ownF_of {w : World} {b0 base : Nat} {u : Value} {fs : List Rat} {vs : List Value} (h : Holds4 w base 29 u fs vs) (lf : ∀ f ∈ fs,Len f 1) (hb : b0 ≤ base) : OwnF w b0 u fs vs :=
 ⟨ownsRow_base h.own hb,h.len,fun i f hf => by
  obtain ⟨s,x,y,p,h1,h2⟩:=h.val i f hf
  have hl:=(lf f (List.mem_of_getElem? hf)).lt
  rw [Nat.pow_one] at hl
  exact ⟨s,x,y,p,h1,fun W => frac_anywhere h2 hl.1 hl.2 W⟩⟩
theorem OwnF.but {w w' : World} {base : Nat} {u : Value} {fs : List Rat} {vs : List Value} (h : OwnF w base u fs vs) (hb : But [] w w') : OwnF w' base u fs vs:=⟨ownsRow_but h.own hb,h.len,h.val⟩
theorem append_row (w : World) (base : Nat) (v : Value) (k : Nat) (us : List Value) (hown : w.ownsRow base 33 1 v k us) (g : Nat) (a : Option Addr) (n c : Nat) (hc : w.cell? ⟨g,0,none⟩ = some (.slice a n c)) (hk : k < 1000000) (hb : base ≤ w.heap.size) :
  ∃ v' w',(Builtin.append_ #[63,63] 63 #[v,.slice (some ⟨g,0,none⟩) 1 1]).run Tryz.prog w = .ok v' w'∧w'.ownsRow base 33 1 v' (k + 1) (us ++ [.slice a n c])∧w.grownBy w' v.ownBlock:=by
 obtain ⟨i0,hi,hz0,hz1,hz2⟩:=info_row
 obtain ⟨v',w',hr,ho,hg,-⟩:=run_append_own (P:=Tryz.prog) w base 63 63 33 i0 _ 1 24 Tryz.underlying63 hi hz0 hz1 hz2 rfl (by decide) v k us hown ⟨g,0,none⟩ 1 1 [.slice a n c] rfl (fun j u hj => by
   have : j = 0 ∨ 1 ≤ j:=by omega
   rcases this with rfl | h1
   ·simp at hj; subst hj; exact hc
   ·rw [List.getElem?_eq_none (by simpa using h1)] at hj; simp at hj) (fun u hu => by
   simp only [List.mem_cons,List.not_mem_nil,or_false] at hu
   subst hu; rfl) (by unfold maxLen; omega) (by omega) hb
 exact ⟨v',w',hr,ho,hg⟩
/-- the fractions of rows of pairs -/
def rowsF (rs : List (List (Int × Int))) : List (List Rat):=rs.map fun r => r.map qf
set_option maxHeartbeats 16000000 in
set_option maxRecDepth 100000 in
theorem plainRows_any (q : Option Addr) (n cap : Nat) (rs : List (List (Int × Int))) (w : World) (hv : QrowsAt w (.slice q n cap) rs) (hN : n = rs.length) (hn : n ≤ 1000) (hl : ∀ i,i < n→(rs[i]?.getD []).length ≤ 1000) (hf : ∀ r ∈ rs,∀ z ∈ r,Fits z) :
  Calls Tryz.prog 44 #[.slice q n cap] w fun e w' => ∃ v,e = .returned v∧ListsAt w' v (rowsF rs)∧But [] w w':=by
 have hmem : ∀ i,i < n→∀ z ∈ rs[i]?.getD [],Fits z:=fun i hi => by
  rw [List.getElem?_eq_getElem (by omega),Option.getD_some]
  exact hf _ (List.getElem_mem _)
 have FS : Hid (∀ i,i < n→∀ W v,QsAt W v (rs[i]?.getD [])→Calls Tryz.prog 57 #[v] W fun e w' => ∃ a c vs,e = .returned (.slice a (rs[i]?.getD []).length c)∧OwnF w' W.heap.size (.slice a (rs[i]?.getD []).length c) ((rs[i]?.getD []).map qf) vs∧But [] W w'):=fun i hi W v hq => by
  refine (plainFs_any v _ W hq (hmem i hi) (hl i hi)).mono ?_
  rintro e w' ⟨v',vs,e1,h1,h2⟩
  obtain ⟨a,c,hac⟩:=ownsRow_form h1.own
  rw [List.length_map] at hac
  subst hac
  refine ⟨a,c,vs,e1,ownF_of h1 (fun f hf' => ?_) (Nat.le_refl _),h2⟩
  obtain ⟨z,hz,rfl⟩:=List.mem_map.1 hf'
  obtain ⟨-,-,-,h,-⟩:=plainF_at z (hmem i hi z hz)
  exact h
 have HV:=hide hv
 have HN:=hide hN
 clear hv hN hl hf hmem
 go_enter Tryz.func44,Tryz.ntmps44
 go_wp2
 go_loopw [3,8] (fun o iv wr => ∃ k : Nat,k ≤ n∧iv = .int .i64 (k : Int)∧Hid ((∃ us : List Value,wr.ownsRow w.heap.size 33 1 o k us∧∀ i,i < k→∃ u vs,us[i]? = some u∧OwnF wr w.heap.size u ((rs[i]?.getD []).map qf) vs)∧But [] w wr)) (fun _ iv _ => n - (intOf iv).toNat)
 case atStart => exact ⟨0,Nat.zero_le _,rfl,⟨[],World.ownsRow_nil _ _ _ _,fun i hi => absurd hi (by omega)⟩,But.refl _ _⟩
 case round =>
  obtain ⟨k,hk,rfl,HI⟩:=hrel
  rename World => wr
  by_cases hlt : k < n
  ·obtain ⟨b,off,ak,ck,rfl,hck,hqk⟩:=((unhide HV).but (unhide HI).2).at k hlt
   have FK:=hide (unhide FS k hlt wr _ hqk)
   obtain ⟨lk,hlk⟩ : ∃ lk,lk = (rs[k]?.getD []).length:=⟨_,rfl⟩
   rw [← hlk] at hck FK
   clear hqk hlk
   go_wp2_with fail
   refine (unhide FK).mono ?_
   rintro e w1 ⟨a1,c1,vs,rfl,ho1,hb1⟩
   obtain ⟨V,hV⟩ : ∃ V,V = w1.alloc (.cells #[.slice a1 lk c1] 33):=⟨_,rfl⟩
   have bV1 : But [] w1 V:=by rw [hV]; exact (But.refl _ _).alloc _
   have cc : V.cell? ⟨w1.heap.size,0,none⟩ = some (.slice a1 lk c1):=by rw [hV]; simp
   have bV : But [] wr V:=hb1.trans' bV1
   obtain ⟨⟨us,hus,hall⟩,hbw⟩:=unhide HI
   have oV:=ownsRow_but hus bV
   obtain ⟨v',w',hr,ho,hg⟩:=append_row V w.heap.size u3 k us oV w1.heap.size a1 lk c1 cc (by omega) (hbw.trans' bV).size
   have BF : Hid (But [] w w'):=but_of_grown (hbw.trans' bV) oV (Nat.le_refl _) hg
   have keep : ∀ (u : Value) (fs : List Rat) (vs : List Value),OwnF V w.heap.size u fs vs→OwnF w' w.heap.size u fs vs:=fun u fs vs h => ⟨h.own.kept hg (ownsRow_apart h.own oV (by decide)),h.len,h.val⟩
   have hul : us.length = k:=by have:=hus.1; omega
   have JJ : Hid ((∃ us : List Value,w'.ownsRow w.heap.size 33 1 v' (k + 1) us∧∀ i,i < k + 1→∃ u vs,us[i]? = some u∧OwnF w' w.heap.size u ((rs[i]?.getD []).map qf) vs)∧But [] w w'):=by
    refine ⟨⟨_,ho,fun i hi => ?_⟩,unhide BF⟩
    by_cases e : i = k
    ·subst e
     refine ⟨.slice a1 lk c1,vs,by rw [List.getElem?_append_right (by omega),hul,Nat.sub_self]; rfl,keep _ _ _ ?_⟩
     have h1:=ho1.but bV1
     exact ⟨ownsRow_base h1.own hbw.size,h1.len,h1.val⟩
    ·obtain ⟨u,vs',h1,h2⟩:=hall i (by omega)
     exact ⟨u,vs',by rw [List.getElem?_append_left (by omega)]; exact h1,keep _ _ _ (h2.but bV)⟩
   rw [hV] at hr
   have HR:=hide hr
   clear hr ho hg oV bV bV1 cc hV hus hall hbw ho1 hb1 keep HI hck FK BF hul
   go_wp2_with (at_builtin; refine wpList_app rfl _ _ 63 63 rfl _ _ v' w' rfl rfl (unhide HR) ?_)
   exact ⟨⟨k + 1,by omega,by go_num,unhide JJ⟩,by simp [intOf]; omega⟩
  ·obtain rfl : k = n:=by omega
   obtain ⟨⟨us,hus,hall⟩,hbw⟩:=unhide HI
   obtain ⟨a',c',rfl⟩:=ownsRow_form hus
   have JJ : Hid (ListsAt wr (.slice a' k c') (rowsF rs)):=by
    have hlen : (rowsF rs).length = k:=by unfold rowsF; rw [List.length_map]; exact (unhide HN).symm
    have hcap : k ≤ c':=by
     rcases hus.2 with ⟨h1,h2⟩ | ⟨g,cap,cur,h1,-,-,h2,-⟩
     ·simp only [Value.slice.injEq] at h1
      omega
     ·simp only [Value.slice.injEq] at h1
      omega
    refine ⟨a',c',by rw [hlen],by rw [hlen]; exact hcap,fun i l hil => ?_⟩
    have hik : i < k:=by rw [← hlen]; exact (List.getElem?_eq_some_iff.1 hil).1
    obtain ⟨u,vs,h1,h2⟩:=hall i hik
    have hl : l = (rs[i]?.getD []).map qf:=by
     unfold rowsF at hil
     rw [List.getElem?_map,List.getElem?_eq_getElem (by have:=unhide HN; omega)] at hil
     rw [List.getElem?_eq_getElem (by have:=unhide HN; omega),Option.getD_some]
     exact (Option.some.inj hil).symm
    rcases hus.2 with ⟨h3,h4⟩ | ⟨g,cap,cur,h3,-⟩
    ·omega
    ·simp only [Value.slice.injEq] at h3
     obtain ⟨rfl,-,rfl⟩:=h3
     refine ⟨g,0,u,rfl,?_,by rw [hl]; exact h2.fracs⟩
     have:=hus.cellAt i (by omega)
     rw [Nat.zero_add,this,h1]
   have JB:=hide hbw
   clear hus hall hbw HI
   go_wp2
   go_ret
   exact ⟨_,rfl,unhide JJ,unhide JB⟩
end Go.Proofs.YtloojmaamaambaaGreatDoor

namespace Go.Proofs.YtloojmaamaambaaGreatDoor
open Go.ChangeShapes Go.WideShapes Go.ChangeAt Go.RowKit Go.Joins

theorem bulk_two {H : Type} : ∀ (l r : List (DataW H)),Rows.uptoBulkAll (l ++ r) = Rows.uptoBulkAll l + Rows.uptoBulkAll r
 | [],r => by rw [List.nil_append,Rows.uptoBulkAll]; omega
 | x :: l,r => by
  rw [List.cons_append,Rows.uptoBulkAll,Rows.uptoBulkAll,bulk_two l r]; omega
theorem bulk_sum {H : Type} (f : Nat→DataW H) (g : Nat→Nat) : ∀ n,(∀ i,i < n→g i + 1 ≤ Rows.uptoBulk (f i))→sgN g n + n ≤ Rows.uptoBulkAll ((List.range n).map f)
 | 0,_ => Nat.zero_le _
 | n + 1,h => by
  have ih:=bulk_sum f g n (fun i hi => h i (by omega))
  have hn:=h n (by omega)
  have e : sgN g (n + 1) = sgN g n + g n:=rfl
  rw [List.range_succ,List.map_append,bulk_two,List.map_cons,List.map_nil,Rows.uptoBulkAll,Rows.uptoBulkAll]
  omega
theorem sgN_nought : ∀ n,sgN (fun _ => 0) n = 0
 | 0 => rfl
 | n + 1 => by
  show sgN (fun _ => 0) n + 0 = 0
  rw [sgN_nought n]
theorem bulk_slice {H : Type} (l r : List (DataW H)) (n : Nat) (h : n ≤ Rows.uptoBulkAll l) : n + 1 ≤ Rows.uptoBulk (.slice l r):=by
 rw [Rows.uptoBulk]; omega
set_option maxRecDepth 100000 in
/-- a slice of pairs that came in, wherever it lies -/
theorem pairs_inT {H : Type} {enc : TypeId × Value→H} {W : World} {v : Value} {d : DataW H} {ps : List MemPlace} {fuel : Nat} (hf : DataW.trod enc Tryz.prog W 0 (fun _ => true) true fuel 24 [v] = some (d,ps)) :
  ∃ qs : List (Int × Int),QsAt W v qs∧(∀ q ∈ qs,Fits q)∧(∀ x ∈ ps,x.block < W.heap.size)∧qs.length + 1 ≤ Rows.uptoBulk d:=by
 rcases Deep.open_slice_pairs Tryz.underlying24 Tryz.underlying23 cellsQ rfl rfl cellsI cellsI hf with ⟨hc,hx⟩ | ⟨b,len,cap,m,k,V0,V1,D0,D1,P0,P1,hc,-,hl,hm,hmm,hx,hall⟩
 ·simp only [List.cons.injEq,and_true] at hc
  subst hc
  obtain ⟨rfl,rfl⟩:=Prod.mk.inj hx
  exact ⟨[],⟨none,0,rfl,Nat.le_refl _,fun i q hq => by simp at hq⟩,fun q hq => by simp at hq,fun x hx => by simp at hx,by rw [Rows.uptoBulk]; exact Nat.le_refl _⟩
 ·simp only [List.cons.injEq,and_true] at hc
  subst hc
  have hlm : len ≤ m:=by rw [hmm]; simpa using hl
  have each : ∀ i,i < m→∃ q : Int × Int,Fits q∧W.cell? ⟨b.block,b.off + i * 2,none⟩ = some (.int .i64 q.1)∧W.cell? ⟨b.block,b.off + i * 2 + 1,none⟩ = some (.int .i64 q.2)∧P0 i = []∧P1 i = []:=fun i hi => by
   obtain ⟨c0,c1,t0,t1⟩:=hall i hi
   obtain ⟨x,e1,e2,w1⟩:=DataW.trod_int Tryz.underlying3 t0
   obtain ⟨y,f1,f2,w2⟩:=DataW.trod_int Tryz.underlying3 t1
   simp only [List.cons.injEq,and_true] at e1 f1
   rw [(add_none b _ (spot_none c0)).1,e1] at c0
   rw [(add_none b _ (spot_none c1)).1,f1] at c1
   have Bx:=bounds_i64 w1
   have By:=bounds_i64 w2
   exact ⟨(x,y),⟨by omega,by omega,by omega,by omega⟩,c0,c1,(Prod.mk.inj e2).2,(Prod.mk.inj f2).2⟩
  have hspot : 0 < m→b.spot = none:=fun h0 => by
   obtain ⟨c0,-⟩:=hall 0 h0
   have:=(add_none b _ (spot_none c0)).2
   simpa using this
  obtain ⟨q,hq⟩:=Classical.axiomOfChoice (fun i : Nat => (by
   by_cases hi : i < m
   ·obtain ⟨q,h⟩:=each i hi
    exact ⟨q,fun _ => h⟩
   ·exact ⟨(0,0),fun h => absurd h hi⟩ : ∃ q : Int × Int,i < m→Fits q∧W.cell? ⟨b.block,b.off + i * 2,none⟩ = some (.int .i64 q.1)∧W.cell? ⟨b.block,b.off + i * 2 + 1,none⟩ = some (.int .i64 q.2)∧P0 i = []∧P1 i = []))
  obtain ⟨hd,hps⟩:=Prod.mk.inj hx
  refine ⟨(List.range len).map q,⟨some b,cap,by simp,by simpa using hl,fun i z hz => ?_⟩,fun z hz => ?_,fun x hx' => ?_,?_⟩
  ·rw [List.getElem?_map] at hz
   by_cases hi : i < len
   ·rw [List.getElem?_range hi,Option.map_some] at hz
    obtain rfl:=Option.some.inj hz
    have hs:=hspot (by omega)
    refine ⟨b.block,b.off,?_,(hq i (by omega)).2.1,(hq i (by omega)).2.2.1⟩
    cases b
    simp only at hs
    subst hs
    rfl
   ·rw [List.getElem?_eq_none (by simpa using hi)] at hz
    simp at hz
  ·obtain ⟨i,hi,rfl⟩:=List.mem_map.1 hz
   exact (hq i (by have:=List.mem_range.1 hi; omega)).1
  ·rw [hps] at hx'
   have hfl : ((List.range m).flatMap fun i => P0 i ++ P1 i) = []:=by
    rw [List.flatMap_eq_nil_iff]
    intro i hi
    have h:=hq i (List.mem_range.1 hi)
    rw [h.2.2.2.1,h.2.2.2.2]
    rfl
   rw [hfl,List.append_nil] at hx'
   rcases Nat.eq_zero_or_pos m with h0 | h0
   ·subst h0
    simp [MemPlace.row] at hx'
   ·have hb : b.block < W.heap.size:=by
     have h:=lt_of_cell (hq 0 h0).2.1
     exact h
    have : x.block = b.block:=by
     unfold MemPlace.row at hx'
     obtain ⟨i,-,rfl⟩:=List.mem_map.1 hx'
     rfl
    omega
  ·rw [hd]
   refine bulk_slice _ _ _ ?_
   rw [List.length_map,List.length_range]
   have:=bulk_sum (fun i => (.agg [D0 i,D1 i] : DataW H)) (fun _ => 0) len (fun i _ => by rw [Rows.uptoBulk]; omega)
   rw [sgN_nought] at this
   omega
theorem cellsS : Tryz.prog.cellsOf 24 = 1:=by kernel_rfl
set_option maxRecDepth 100000 in
/-- rows of pairs that came in -/
theorem rows_in {H : Type} {enc : TypeId × Value→H} {W : World} {v : Value} {d : DataW H} {ps : List MemPlace} (hval : Value.okWide Tryz.prog W .any 0 74 v) (h : DataW.Trod enc Tryz.prog W 0 (fun _ => true) true 74 v d ps) :
  ∃ rs : List (List (Int × Int)),QrowsAt W v rs∧(∀ r ∈ rs,∀ z ∈ r,Fits z)∧(∀ x ∈ ps,x.block < W.heap.size)∧rs.length + totN rs rs.length + 1 ≤ Rows.uptoBulk d:=by
 obtain ⟨a,len,cap,rfl⟩:=okWide_slice Tryz.underlying74 hval
 obtain ⟨fuel,hf⟩:=h
 rcases Deep.open_slice1 Tryz.underlying74 cellsS hf with ⟨hc,hx⟩ | ⟨b,len',cap',m,k,V,D,Pl,hc,-,hl,-,hmm,hx,hall⟩
 ·have hc' : [Value.slice a len cap] = [.slice none 0 0]:=hc
  simp only [List.cons.injEq,Value.slice.injEq,and_true] at hc'
  obtain ⟨rfl,rfl,rfl⟩:=hc'
  obtain ⟨rfl,rfl⟩:=Prod.mk.inj hx
  exact ⟨[],⟨none,0,rfl,fun i q hq => by simp at hq⟩,fun q hq => by simp at hq,fun x hx => by simp at hx,by rw [Rows.uptoBulk]; exact Nat.le_refl _⟩
 ·have hc' : [Value.slice a len cap] = [.slice (some b) len' cap']:=hc
  simp only [List.cons.injEq,Value.slice.injEq,and_true] at hc'
  obtain ⟨rfl,rfl,rfl⟩:=hc'
  have hlm : len ≤ m:=by rw [hmm]; simpa using hl
  have each : ∀ i,i < m→∃ q : List (Int × Int),W.cell? ⟨b.block,b.off + i,none⟩ = some (V i)∧QsAt W (V i) q∧(∀ z ∈ q,Fits z)∧(∀ x ∈ Pl i,x.block < W.heap.size)∧q.length + 1 ≤ Rows.uptoBulk (D i):=fun i hi => by
   obtain ⟨c0,t0⟩:=hall i hi
   obtain ⟨q,h1,h2,h3,h4⟩:=pairs_inT t0
   rw [(add_none b _ (spot_none c0)).1] at c0
   exact ⟨q,c0,h1,h2,h3,h4⟩
  have hspot : 0 < m→b.spot = none:=fun h0 => by
   obtain ⟨c0,-⟩:=hall 0 h0
   have:=(add_none b _ (spot_none c0)).2
   simpa using this
  obtain ⟨q,hq⟩:=Classical.axiomOfChoice (fun i : Nat => (by
   by_cases hi : i < m
   ·obtain ⟨q,h⟩:=each i hi
    exact ⟨q,fun _ => h⟩
   ·exact ⟨[],fun h => absurd h hi⟩ : ∃ q : List (Int × Int),i < m→W.cell? ⟨b.block,b.off + i,none⟩ = some (V i)∧QsAt W (V i) q∧(∀ z ∈ q,Fits z)∧(∀ x ∈ Pl i,x.block < W.heap.size)∧q.length + 1 ≤ Rows.uptoBulk (D i)))
  obtain ⟨hd,hps⟩:=Prod.mk.inj hx
  refine ⟨(List.range len).map q,⟨some b,cap,by simp,fun i z hz => ?_⟩,fun r hr z hz => ?_,fun x hx' => ?_,?_⟩
  ·rw [List.getElem?_map] at hz
   by_cases hi : i < len
   ·rw [List.getElem?_range hi,Option.map_some] at hz
    obtain rfl:=Option.some.inj hz
    have hs:=hspot (by omega)
    refine ⟨b.block,b.off,V i,?_,(hq i (by omega)).1,(hq i (by omega)).2.1⟩
    cases b
    simp only at hs
    subst hs
    rfl
   ·rw [List.getElem?_eq_none (by simpa using hi)] at hz
    simp at hz
  ·obtain ⟨i,hi,rfl⟩:=List.mem_map.1 hr
   exact (hq i (by have:=List.mem_range.1 hi; omega)).2.2.1 z hz
  ·rw [hps] at hx'
   rcases List.mem_append.1 hx' with h1 | h1
   ·rcases Nat.eq_zero_or_pos m with h0 | h0
    ·subst h0
     simp [MemPlace.row] at h1
    ·have hb : b.block < W.heap.size:=by
      have h:=lt_of_cell (hq 0 h0).1
      exact h
     have : x.block = b.block:=by
      unfold MemPlace.row at h1
      obtain ⟨i,-,rfl⟩:=List.mem_map.1 h1
      rfl
     omega
   ·obtain ⟨i,hi,hxi⟩:=List.mem_flatMap.1 h1
    exact (hq i (List.mem_range.1 hi)).2.2.2.1 x hxi
  ·rw [hd]
   have h1:=bulk_sum D (fun i => (((List.range len).map q)[i]?.getD []).length) len (fun i hi => by
    rw [List.getElem?_map,List.getElem?_range hi]
    exact (hq i (by omega)).2.2.2.2)
   refine bulk_slice _ _ _ ?_
   rw [List.length_map,List.length_range]
   unfold totN
   omega
end Go.Proofs.YtloojmaamaambaaGreatDoor

namespace Go.Proofs.YtloojmaamaambaaGreatDoor
open Go.RowKit

/-- which error kinds make, or none -/
def kndE (ks : List Kd) : Int:=if ks.length < 1 then 4 else if ks.any (fun k => decide (k.ch.num < 0) || decide (k.sp.num < 0)) then 1 else if mkR ks (fun _ => ((1 : Int) : Rat)) ks.length = ((1 : Int) : Rat) then 0 else 10
theorem kd_mem {ks : List Kd} {k : Nat} (h : k < ks.length) : kdAt ks k ∈ ks:=by
 unfold kdAt
 rw [List.getElem?_eq_getElem h]
 exact List.getElem_mem h
theorem sign_low {z : Int} (h : z < 0) : z.sign = -1:=Int.sign_eq_neg_one_of_neg h
theorem sign_high {z : Int} (h : ¬ z < 0) : 0 ≤ z.sign:=by
 rcases Int.lt_trichotomy z 0 with h' | h' | h'
 ·omega
 ·rw [h']; decide
 ·rw [Int.sign_eq_one_of_pos h']; decide
theorem enters_kOne : ∀ args W,(callFunc 159 args).run Tryz.prog W = .ok (.enter 159 args) W:=enters_of Tryz.func159 (by kernel_rfl) rfl
theorem enters_kMean : ∀ args W,(callFunc 160 args).run Tryz.prog W = .ok (.enter 160 args) W:=enters_of Tryz.func160 (by kernel_rfl) rfl
theorem enters_kSquare : ∀ args W,(callFunc 161 args).run Tryz.prog W = .ok (.enter 161 args) W:=enters_of Tryz.func161 (by kernel_rfl) rfl
theorem enters_kSpread : ∀ args W,(callFunc 163 args).run Tryz.prog W = .ok (.enter 163 args) W:=enters_of Tryz.func163 (by kernel_rfl) rfl
set_option maxHeartbeats 16000000 in
set_option maxRecDepth 100000 in
theorem checkKinds_any (q : Option Addr) (n cap : Nat) (ks : List Kd) (yr : Int) (w : World) (hv : KindsAt w (.slice q n cap) ks) (hN : n = ks.length) (hn : n ≤ 40) (hy1 : 1 ≤ yr) (hy2 : yr ≤ 120) (lc : ∀ k,k < n→Len (kdAt ks k).ch 1) (_lm : ∀ k,k < n→Len (kdAt ks k).me 1) (_lp : ∀ k,k < n→Len (kdAt ks k).sp 1) :
  Calls Tryz.prog 105 #[.slice q n cap,.int .i64 yr] w fun e w' => e = .returned (errV (kndE ks))∧But [] w w':=by
 have HV:=hide hv
 have HN:=hide hN
 have ME:=hide (fun W (h : But [] w W) => meanOf_any q n cap ks (fun _ => ((1 : Int) : Rat)) 1 159 W (hv.but h) hN hn (by omega) lc (fun k hk => len_int 1 (by decide)) enters_kOne (fun s1 x1 y1 p1 s2 x2 y2 p2 s3 x3 y3 p3 k W hk hok => kOne_any s1 x1 y1 p1 s2 x2 y2 p2 s3 x3 y3 p3 _ W hok))
 obtain ⟨SM,hSM⟩ : ∃ SM,SM = mkR ks (fun _ => ((1 : Int) : Rat)) n:=⟨_,rfl⟩
 have lS : Len SM 200:=by
  rw [hSM]
  refine (len_mkR ks (fun _ => ((1 : Int) : Rat)) n 1 lc (fun k hk => len_int 1 (by decide)) n (Nat.le_refl _)).mono ?_
  omega
 rw [← hSM] at ME
 obtain ⟨ce,hce⟩ : ∃ ce,ce = kndE ks:=⟨_,rfl⟩
 rw [← hce]
 have HCE : Hid (ce = if n < 1 then 4 else if ks.any (fun k => decide (k.ch.num < 0) || decide (k.sp.num < 0)) then 1 else if SM = ((1 : Int) : Rat) then 0 else 10):=by
  show _ = _
  rw [hce,hSM,hN]; rfl
 clear hce hSM hv hN lc _lm _lp
 go_enter Tryz.func105,Tryz.ntmps105
 by_cases h0 : n < 1
 ·obtain rfl : n = 0:=by omega
  have e4 : ce = 4:=by rw [unhide HCE,if_pos (by omega)]
  subst e4
  go_wp2
  go_ret
  exact ⟨rfl,But.refl _ _⟩
 ·go_wp2
  go_loopw [18] (fun iv wr => ∃ k : Nat,k ≤ n∧iv = .int .i64 (k : Int)∧Hid ((∀ j,j < k→¬ (kdAt ks j).ch.num < 0∧¬ (kdAt ks j).sp.num < 0)∧But [] w wr)) (fun iv _ => n - (intOf iv).toNat)
  case atStart => exact ⟨0,Nat.zero_le _,rfl,fun j hj => absurd hj (by omega),But.refl _ _⟩
  case round =>
   obtain ⟨k,hk,rfl,HI⟩:=hrel
   rename World => wr
   by_cases hlt : k < n
   ·have hkl : k < ks.length:=by have:=unhide HN; omega
    have hkk : ks[k]? = some (kdAt ks k):=by
     unfold kdAt
     rw [List.getElem?_eq_getElem hkl]; rfl
    obtain ⟨b,off,s1,x1,y1,p1,s2,x2,y2,p2,s3,x3,y3,p3,rfl,kc,hok⟩:=((unhide HV).but (unhide HI).2).get k hlt _ hkk
    have r0 : wr.cell? ⟨b,off + k * 12,none⟩ = some (.bool s1):=kc.1.1
    have r1 : wr.cell? ⟨b,off + k * 12 + 1,none⟩ = some (.int .u64 x1):=kc.1.2.1
    have r2 : wr.cell? ⟨b,off + k * 12 + 2,none⟩ = some (.int .u64 y1):=kc.1.2.2.1
    have r3 : wr.cell? ⟨b,off + k * 12 + 3,none⟩ = some (.pointer p1):=kc.1.2.2.2
    have r4 : wr.cell? ⟨b,off + k * 12 + 4,none⟩ = some (.bool s2):=kc.2.1.1
    have r5 : wr.cell? ⟨b,off + k * 12 + 5,none⟩ = some (.int .u64 x2):=kc.2.1.2.1
    have r6 : wr.cell? ⟨b,off + k * 12 + 6,none⟩ = some (.int .u64 y2):=kc.2.1.2.2.1
    have r7 : wr.cell? ⟨b,off + k * 12 + 7,none⟩ = some (.pointer p2):=kc.2.1.2.2.2
    have r8 : wr.cell? ⟨b,off + k * 12 + 8,none⟩ = some (.bool s3):=kc.2.2.1
    have r9 : wr.cell? ⟨b,off + k * 12 + 9,none⟩ = some (.int .u64 x3):=kc.2.2.2.1
    have r10 : wr.cell? ⟨b,off + k * 12 + 10,none⟩ = some (.int .u64 y3):=kc.2.2.2.2.1
    have r11 : wr.cell? ⟨b,off + k * 12 + 11,none⟩ = some (.pointer p3):=kc.2.2.2.2.2
    have SC:=hide (fun W => fracSign_any _ (kdAt ks k).ch W (hok.1 W))
    have SP:=hide (fun W => fracSign_any _ (kdAt ks k).sp W (hok.2.2 W))
    have HB:=hide ((unhide HI).2.trans' ((But.refl _ _).alloc (.cells #[.bool s1,.int .u64 x1,.int .u64 y1,.pointer p1,.bool s2,.int .u64 x2,.int .u64 y2,.pointer p2,.bool s3,.int .u64 x3,.int .u64 y3,.pointer p3] 79)))
    have KB : Hid (K12 (wr.alloc (.cells #[.bool s1,.int .u64 x1,.int .u64 y1,.pointer p1,.bool s2,.int .u64 x2,.int .u64 y2,.pointer p2,.bool s3,.int .u64 x3,.int .u64 y3,.pointer p3] 79)) wr.heap.size 0 s1 x1 y1 p1 s2 x2 y2 p2 s3 x3 y3 p3):=⟨⟨by simp,by simp,by simp,by simp⟩,⟨by simp,by simp,by simp,by simp⟩,⟨by simp,by simp,by simp,by simp⟩⟩
    have hbad : (kdAt ks k).ch.num < 0 ∨ (kdAt ks k).sp.num < 0→ce = 1:=fun h => by
     rw [unhide HCE,if_neg h0,if_pos (List.any_eq_true.2 ⟨_,kd_mem hkl,by
      rcases h with h | h
      ·rw [decide_eq_true h]; rfl
      ·rw [decide_eq_true h,Bool.or_true]⟩)]
    have HBAD:=hide hbad
    clear kc hok hkk hbad
    by_cases hc : (kdAt ks k).ch.num < 0
    ·obtain rfl:=unhide HBAD (.inl hc)
     rw [sign_low hc] at SC
     go_wp2_with fail
     refine (unhide SC _).mono ?_
     rintro e w1 ⟨rfl,hb1⟩
     have B1:=hide ((unhide HB).trans' hb1)
     clear hb1 r0 r1 r2 r3 r4 r5 r6 r7 r8 r9 r10 r11
     go_wp2
     go_ret
     exact ⟨rfl,unhide B1⟩
    ·have hsc:=sign_high hc
     obtain ⟨sc,hsc2⟩ : ∃ sc,sc = (kdAt ks k).ch.num.sign:=⟨_,rfl⟩
     rw [← hsc2] at SC hsc
     clear hsc2
     go_wp2_with fail
     refine (unhide SC _).mono ?_
     rintro e w1 ⟨rfl,hb1⟩
     have B1:=hide ((unhide HB).trans' hb1)
     have K1:=hide ((unhide KB).but hb1 (by simp))
     clear hb1 r0 r1 r2 r3 r4 r5 r6 r7 r8 r9 r10 r11 HB KB SC
     generalize wr.heap.size = g6 at *
     obtain ⟨-,-,⟨k8,k9,k10,k11⟩⟩:=unhide K1
     simp only [Nat.zero_add,Nat.reduceAdd] at k8 k9 k10 k11
     by_cases hp : (kdAt ks k).sp.num < 0
     ·obtain rfl:=unhide HBAD (.inr hp)
      rw [sign_low hp] at SP
      go_wp2_with fail
      refine (unhide SP _).mono ?_
      rintro e w2 ⟨rfl,hb2⟩
      have B2:=hide ((unhide B1).trans' hb2)
      clear hb2
      go_wp2
      go_ret
      exact ⟨rfl,unhide B2⟩
     ·have hsp:=sign_high hp
      obtain ⟨sp,hsp2⟩ : ∃ sp,sp = (kdAt ks k).sp.num.sign:=⟨_,rfl⟩
      rw [← hsp2] at SP hsp
      clear hsp2
      go_wp2_with fail
      refine (unhide SP _).mono ?_
      rintro e w2 ⟨rfl,hb2⟩
      have B2:=hide ((unhide B1).trans' hb2)
      have HC:=hide hc
      have HP:=hide hp
      clear hb2 B1 K1 k8 k9 k10 k11 hc hp
      go_wp2
      refine ⟨⟨k + 1,by omega,by go_num,fun j hj => ?_,unhide B2⟩,by simp [intOf]; omega⟩
      by_cases e : j = k
      ·subst e
       have h1:=unhide HC
       have h2:=unhide HP
       exact ⟨by omega,by omega⟩
      ·have:=(unhide HI).1 j (by omega)
       exact ⟨by omega,by omega⟩
   ·obtain rfl : k = n:=by omega
    obtain ⟨hall,hbw⟩:=unhide HI
    have hno : ks.any (fun k => decide (k.ch.num < 0) || decide (k.sp.num < 0)) = false:=by
     rw [List.any_eq_false]
     intro z hz
     obtain ⟨j,hj,rfl⟩:=List.mem_iff_getElem.1 hz
     have h:=hall j (by have:=unhide HN; omega)
     have e : kdAt ks j = ks[j]:=by
      unfold kdAt
      rw [List.getElem?_eq_getElem hj]; rfl
     rw [e] at h
     rw [decide_eq_false h.1,decide_eq_false h.2]
     decide
    have hce2 : ce = if SM = ((1 : Int) : Rat) then 0 else 10:=by rw [unhide HCE,if_neg h0,hno]; simp
    have HC2:=hide hce2
    have HBW:=hide hbw
    obtain ⟨ws,wx,FW,CW⟩:=whole_is 1 (by omega) (by omega)
    have HFW:=hide FW
    have HCW:=hide CW
    obtain ⟨r,hr⟩ : ∃ r,r = cmpZ (SM.num * ((((1 : Int) : Rat)).den : Int)) ((((1 : Int) : Rat)).num * (SM.den : Int)):=⟨_,rfl⟩
    have h3:=(cmpZ_tells SM ((1 : Int) : Rat) r hr).2.2
    have H3:=hide h3
    have HR:=hide hr
    clear hall hbw hno hce2 HI FW CW h3 hr
    go_wp2_with fail
    refine (unhide ME _ (unhide HBW)).mono ?_
    rintro e w1 ⟨v1,rfl,hf1,hb1⟩
    have B1:=hide ((unhide HBW).trans' hb1)
    obtain ⟨x1,y1,p1,rfl,-⟩:=id hf1.agg
    generalize decide (SM.num < 0) = s1 at *
    have F1:=hide hf1
    clear hb1 hf1 ME
    go_wp2_with fail
    refine (unhide HCW _).mono ?_
    rintro e w2 ⟨rfl,hb2⟩
    have B2:=hide ((unhide B1).trans' hb2)
    have CM:=hide (fracCmp_any _ _ SM ((1 : Int) : Rat) w2 ((unhide F1).but hb2) (unhide HFW w2) (lS.mono (by omega)) ((len_int 1 (by decide)).mono (by omega)) r (unhide HR))
    clear hb2 B1 F1 HCW
    go_wp2_with fail
    refine (unhide CM).mono ?_
    rintro e w3 ⟨rfl,hb3⟩
    have B3:=hide ((unhide B2).trans' hb3)
    clear hb3 B2 CM
    by_cases hr0 : r = 0
    ·have e0 : ce = 0:=by rw [unhide HC2,if_pos ((unhide H3).1 hr0)]
     subst e0
     subst hr0
     go_wp2
     go_ret
     exact ⟨rfl,unhide B3⟩
    ·have e0 : ce = 10:=by rw [unhide HC2,if_neg (fun h => hr0 ((unhide H3).2 h))]
     subst e0
     go_wp2
     go_ret
     exact ⟨rfl,unhide B3⟩
set_option maxHeartbeats 16000000 in
set_option maxRecDepth 100000 in
theorem mixOf_any (q : Option Addr) (n cap : Nat) (ks : List Kd) (yr : Int) (w : World) (hv : KindsAt w (.slice q n cap) ks) (hN : n = ks.length) (hn : n ≤ 40) (hy1 : 1 ≤ yr) (hy2 : yr ≤ 120) (lc : ∀ k,k < n→Len (kdAt ks k).ch 1) (lm : ∀ k,k < n→Len (kdAt ks k).me 1) (lp : ∀ k,k < n→Len (kdAt ks k).sp 1) :
  Calls Tryz.prog 106 #[.slice q n cap,.int .i64 yr] w fun e w' => ∃ v,e = .returned v∧MixAt (mkR ks (fun k => k.me) n) (mkR ks (fun k => k.me * k.me) n - mkR ks (fun k => k.me) n * mkR ks (fun k => k.me) n) (mkR ks (fun k => k.sp) n / ((yr : Int) : Rat)) w' v∧But [] w w':=by
 have M1:=hide (fun W (h : But [] w W) => meanOf_any q n cap ks (fun k => k.me) 1 160 W (hv.but h) hN hn (by omega) lc lm enters_kMean (fun s1 x1 y1 p1 s2 x2 y2 p2 s3 x3 y3 p3 k W hk hok => kMean_any s1 x1 y1 p1 s2 x2 y2 p2 s3 x3 y3 p3 _ W hok))
 have M2:=hide (fun W (h : But [] w W) => meanOf_any q n cap ks (fun k => k.me * k.me) 2 161 W (hv.but h) hN hn (by omega) lc (fun k hk => len_mul (lm k hk) (lm k hk) 2 (by omega)) enters_kSquare (fun s1 x1 y1 p1 s2 x2 y2 p2 s3 x3 y3 p3 k W hk hok => kSquare_any s1 x1 y1 p1 s2 x2 y2 p2 s3 x3 y3 p3 _ W hok ((lm k hk).mono (by omega))))
 have M3:=hide (fun W (h : But [] w W) => meanOf_any q n cap ks (fun k => k.sp) 1 163 W (hv.but h) hN hn (by omega) lc lp enters_kSpread (fun s1 x1 y1 p1 s2 x2 y2 p2 s3 x3 y3 p3 k W hk hok => kSpread_any s1 x1 y1 p1 s2 x2 y2 p2 s3 x3 y3 p3 _ W hok))
 have l1 : Len (mkR ks (fun k => k.me) n) 500:=(len_mkR ks (fun k => k.me) n 1 lc lm n (Nat.le_refl _)).mono (by omega)
 have l2 : Len (mkR ks (fun k => k.me * k.me) n) 500:=(len_mkR ks (fun k => k.me * k.me) n 2 lc (fun k hk => len_mul (lm k hk) (lm k hk) 2 (by omega)) n (Nat.le_refl _)).mono (by omega)
 have l3 : Len (mkR ks (fun k => k.sp) n) 500:=(len_mkR ks (fun k => k.sp) n 1 lc lp n (Nat.le_refl _)).mono (by omega)
 generalize mkR ks (fun k => k.me) n = A1 at *
 generalize mkR ks (fun k => k.me * k.me) n = A2 at *
 generalize mkR ks (fun k => k.sp) n = A3 at *
 have x4 : SBox (w.alloc (.cells #[.bool false,.int .u64 0,.int .u64 0,.pointer none,.bool false,.int .u64 0,.int .u64 0,.pointer none,.bool false,.int .u64 0,.int .u64 0,.pointer none] 157)) w.heap.size [.bool false,.int .u64 0,.int .u64 0,.pointer none,.bool false,.int .u64 0,.int .u64 0,.pointer none,.bool false,.int .u64 0,.int .u64 0,.pointer none]:=SBox.new w _ _
 have bA : But [] w (w.alloc (.cells #[.bool false,.int .u64 0,.int .u64 0,.pointer none,.bool false,.int .u64 0,.int .u64 0,.pointer none,.bool false,.int .u64 0,.int .u64 0,.pointer none] 157)):=(But.refl _ _).alloc _
 have X4:=hide x4
 have BA:=hide bA
 have Q2 : Hid (w.heap.size ≤ w.heap.size):=Nat.le_refl _
 clear x4 bA hv lc lm lp hN
 go_enter Tryz.func106,Tryz.ntmps106
 go_wp2_with fail
 refine (unhide M1 _ (unhide BA)).mono ?_
 rintro e w1 ⟨v1,rfl,hf1,hb1⟩
 obtain ⟨x1,y1,p1,rfl,-⟩:=id hf1.agg
 generalize decide (A1.num < 0) = s1 at *
 have bs1:=hb1.trans' ((But.refl _ _).alloc (.cells #[.bool s1,.int .u64 x1,.int .u64 y1,.pointer p1] 29))
 have B1:=hide ((unhide BA).trans' bs1)
 have X41:=hide ((unhide X4).but bs1 (by simp) (by simp))
 have Y1:=hide (BoxAt.new w1 s1 x1 y1 p1 _ 29 hf1)
 clear hb1 hf1 bs1 X4 BA M1
 go_wp2_with fail
 generalize w1.heap.size = g5 at *
 generalize w1.alloc (.cells #[.bool s1,.int .u64 x1,.int .u64 y1,.pointer p1] 29) = V1 at *
 refine (unhide M2 _ (unhide B1)).mono ?_
 rintro e w2 ⟨v2,rfl,hf2,hb2⟩
 obtain ⟨x2,y2,p2,rfl,-⟩:=id hf2.agg
 generalize decide (A2.num < 0) = s2 at *
 have bs2:=hb2.trans' ((But.refl _ _).alloc (.cells #[.bool s2,.int .u64 x2,.int .u64 y2,.pointer p2] 29))
 have B2:=hide ((unhide B1).trans' bs2)
 have X42:=hide ((unhide X41).but bs2 (by simp) (by simp))
 have Y12:=hide ((unhide Y1).but bs2)
 have Y2:=hide (BoxAt.new w2 s2 x2 y2 p2 _ 29 hf2)
 clear hb2 hf2 bs2 X41 B1 Y1 M2
 go_wp2_with fail
 generalize w2.heap.size = g6 at *
 generalize w2.alloc (.cells #[.bool s2,.int .u64 x2,.int .u64 y2,.pointer p2] 29) = V2 at *
 refine (unhide M3 _ (unhide B2)).mono ?_
 rintro e w3 ⟨v3,rfl,hf3,hb3⟩
 obtain ⟨x3,y3,p3,rfl,-⟩:=id hf3.agg
 generalize decide (A3.num < 0) = s3 at *
 have bs3:=hb3.trans' ((But.refl _ _).alloc (.cells #[.bool s3,.int .u64 x3,.int .u64 y3,.pointer p3] 29))
 have B3:=hide ((unhide B2).trans' bs3)
 have X43:=hide ((unhide X42).but bs3 (by simp) (by simp))
 have Y13:=hide ((unhide Y12).but bs3)
 have Y23:=hide ((unhide Y2).but bs3)
 have Y3:=hide (BoxAt.new w3 s3 x3 y3 p3 _ 29 hf3)
 clear hb3 hf3 bs3 X42 B2 Y12 Y2 M3
 go_wp2
 generalize w3.heap.size = g7 at *
 generalize w3.alloc (.cells #[.bool s3,.int .u64 x3,.int .u64 y3,.pointer p3] 29) = V3 at *
 generalize hg4 : w.heap.size = g4 at *
 obtain ⟨⟨t1,a1,b1,q1,k1,f1⟩,-⟩:=unhide Y13
 obtain ⟨⟨t2,a2,b2,q2,k2,f2⟩,-⟩:=unhide Y23
 obtain ⟨⟨t3,a3,b3,q3,k3,f3⟩,-⟩:=unhide Y3
 have lq:=len_mul l1 l1 1000 (by omega)
 refine mixOf_region 4 _ _ V3 yr t1 a1 b1 q1 t2 a2 b2 q2 t3 a3 b3 q3 A1 A2 A3 g4 g5 g6 g7 (by simp) (by simp [Act.eval]) (unhide X43) rfl (by simp [Act.eval]) (by simp [Act.eval]) (by simp [Act.eval]) (by simp [Act.eval]) k1 k2 k3 f1 (fun W hb => square_any _ _ W (f1.but hb) (l1.mono (by omega))) (fun W hb v hv => fracSub_any _ _ _ _ W (f2.but hb) hv (l2.mono (by omega)) (lq.mono (by omega))) (fun W hb => creditQuot_any _ _ yr W (f3.but hb) (l3.mono (by omega)) hy1 (by omega)) ?_
 intro w4 v0 v3' v4 v7 e1 e2 e3 e4 e5 e6 e7 e8 e9 e10 e11 e12 hb4 h1 h2 h3
 simp only [putted,List.foldl_cons,List.foldl_nil,Act.put,List.setIfInBounds_toArray,List.set_cons_zero,List.set_cons_succ]
 have X44:=(unhide X43).but hb4 (by simp) (by simp)
 have hS:=but_setCells w4 g4 [.bool e1,.int .u64 e2,.int .u64 e3,.pointer e4,.bool e5,.int .u64 e6,.int .u64 e7,.pointer e8,.bool e9,.int .u64 e10,.int .u64 e11,.pointer e12] 0
 have P:=X44.put (us:=[.bool e1,.int .u64 e2,.int .u64 e3,.pointer e4,.bool e5,.int .u64 e6,.int .u64 e7,.pointer e8,.bool e9,.int .u64 e10,.int .u64 e11,.pointer e12]) rfl
 have m0:=P.cells 0 _ rfl
 have m1:=P.cells 1 _ rfl
 have m2:=P.cells 2 _ rfl
 have m3:=P.cells 3 _ rfl
 have m4:=P.cells 4 _ rfl
 have m5:=P.cells 5 _ rfl
 have m6:=P.cells 6 _ rfl
 have m7:=P.cells 7 _ rfl
 have m8:=P.cells 8 _ rfl
 have m9:=P.cells 9 _ rfl
 have m10:=P.cells 10 _ rfl
 have m11:=P.cells 11 _ rfl
 have c0:=X44.cells 0 _ rfl
 have hF : But [] w (w4.setCells g4 0 [.bool e1,.int .u64 e2,.int .u64 e3,.pointer e4,.bool e5,.int .u64 e6,.int .u64 e7,.pointer e8,.bool e9,.int .u64 e10,.int .u64 e11,.pointer e12]):=((unhide B3).trans' hb4).trans hS (fun x hx => by simp at hx; subst hx; exact .inr (by omega))
 have h1':=h1.over c0 hS
 have h2':=h2.over c0 hS
 have h3':=h3.over c0 hS
 generalize w4.setCells g4 0 [.bool e1,.int .u64 e2,.int .u64 e3,.pointer e4,.bool e5,.int .u64 e6,.int .u64 e7,.pointer e8,.bool e9,.int .u64 e10,.int .u64 e11,.pointer e12] = F at *
 clear P X44 hS c0 h1 h2 h3 hb4 k1 k2 k3 f1 f2 f3
 go_wp2
 exact bodyPost_ret (v:=.agg #[.bool e1,.int .u64 e2,.int .u64 e3,.pointer e4,.bool e5,.int .u64 e6,.int .u64 e7,.pointer e8,.bool e9,.int .u64 e10,.int .u64 e11,.pointer e12]) (by simp [results,Tryz.results106,go_sem,m0,m1,m2,m3,m4,m5,m6,m7,m8,m9,m10,m11]) rfl ⟨_,rfl,⟨e1,e2,e3,e4,e5,e6,e7,e8,e9,e10,e11,e12,rfl,h1',h2',h3'⟩,hF⟩
end Go.Proofs.YtloojmaamaambaaGreatDoor

namespace Go.Proofs.YtloojmaamaambaaGreatDoor
open Go.RowKit

/-- what kinds are together -/
def mx1 (ks : List Kd) : Rat:=mkR ks (fun k => k.me) ks.length
def mx2 (ks : List Kd) : Rat:=mkR ks (fun k => k.me * k.me) ks.length - mkR ks (fun k => k.me) ks.length * mkR ks (fun k => k.me) ks.length
def mx3 (ks : List Kd) (yr : Int) : Rat:=mkR ks (fun k => k.sp) ks.length / ((yr : Int) : Rat)
/-- the mean of the square of what a line says amiss -/
def amR (m1 m2 m3 b o : Rat) : Rat:=(b - (((1 : Int) : Rat) - o) * m1) * (b - (((1 : Int) : Rat) - o) * m1) + (((1 : Int) : Rat) - o) * (((1 : Int) : Rat) - o) * m2 + o * o * m3
theorem len_mx (ks : List Kd) (yr : Int) (hn : ks.length ≤ 40) (hy1 : 1 ≤ yr) (hy2 : yr ≤ 120) (lc : ∀ k,k < ks.length→Len (kdAt ks k).ch 1) (lm : ∀ k,k < ks.length→Len (kdAt ks k).me 1) (lp : ∀ k,k < ks.length→Len (kdAt ks k).sp 1) : Len (mx1 ks) 500∧Len (mx2 ks) 1501∧Len (mx3 ks yr) 502:=by
 have l1 : Len (mkR ks (fun k => k.me) ks.length) 500:=(len_mkR ks (fun k => k.me) ks.length 1 lc lm ks.length (Nat.le_refl _)).mono (by omega)
 have l2 : Len (mkR ks (fun k => k.me * k.me) ks.length) 500:=(len_mkR ks (fun k => k.me * k.me) ks.length 2 lc (fun k hk => len_mul (lm k hk) (lm k hk) 2 (by omega)) ks.length (Nat.le_refl _)).mono (by omega)
 have l3 : Len (mkR ks (fun k => k.sp) ks.length) 500:=(len_mkR ks (fun k => k.sp) ks.length 1 lc lp ks.length (Nat.le_refl _)).mono (by omega)
 refine ⟨l1,len_sub l2 (len_mul l1 l1 1000 (by omega)) 1501 (by omega),?_⟩
 exact len_div l3 (len_int yr (by omega)) (by rw [(int_parts yr).1]; omega) 502 (by omega)
set_option maxHeartbeats 16000000 in
set_option maxRecDepth 100000 in
theorem amiss_any (v : Value) (m1 m2 m3 b o : Rat) (s4 : Bool) (x4 y4 : Int) (p4 : Option Addr) (s5 : Bool) (x5 y5 : Int) (p5 : Option Addr) (w : World) (hv : MixAt m1 m2 m3 w v) (hb : FracAt w (.agg #[.bool s4,.int .u64 x4,.int .u64 y4,.pointer p4]) b) (ho : FracAt w (.agg #[.bool s5,.int .u64 x5,.int .u64 y5,.pointer p5]) o) (l1 : Len m1 2000) (l2 : Len m2 2000) (l3 : Len m3 2000) (lb : Len b 20000) (lo : Len o 10000) :
  Calls Tryz.prog 109 #[v,.agg #[.bool s4,.int .u64 x4,.int .u64 y4,.pointer p4,.bool s5,.int .u64 x5,.int .u64 y5,.pointer p5]] w fun e w' => ∃ v',e = .returned v'∧FracAt w' v' (amR m1 m2 m3 b o)∧But [] w w':=by
 obtain ⟨s1,x1,y1,p1,s2,x2,y2,p2,s3,x3,y3,p3,rfl,h1,h2,h3⟩:=hv
 obtain ⟨M,hM⟩ : ∃ M,M = ((1 : Int) : Rat) - o:=⟨_,rfl⟩
 have lM : Len M 10002:=by rw [hM]; exact len_sub ((len_int 1 (by decide)).mono (show 1 ≤ 1 by omega)) lo 10002 (by omega)
 have RE:=hide (fun W (h : But [] w W) => creditRest_any _ o W (ho.but h) (lo.mono (by omega)))
 rw [← hM] at RE
 have hval : amR m1 m2 m3 b o = (b - M * m1) * (b - M * m1) + M * M * m2 + o * o * m3:=by rw [hM]; rfl
 rw [hval]
 have H1:=hide h1
 have H2:=hide h2
 have H3:=hide h3
 have H4:=hide hb
 have H5:=hide ho
 clear h1 h2 h3 hb ho hM hval
 obtain ⟨A0,hA0⟩ : ∃ A0,A0 = w.alloc (.cells #[.bool s1,.int .u64 x1,.int .u64 y1,.pointer p1,.bool s2,.int .u64 x2,.int .u64 y2,.pointer p2,.bool s3,.int .u64 x3,.int .u64 y3,.pointer p3] 157):=⟨_,rfl⟩
 obtain ⟨A1,hA1⟩ : ∃ A1,A1 = A0.alloc (.cells #[.bool s4,.int .u64 x4,.int .u64 y4,.pointer p4,.bool s5,.int .u64 x5,.int .u64 y5,.pointer p5] 81):=⟨_,rfl⟩
 obtain ⟨W,hW⟩ : ∃ W,W = A1.alloc (.cells #[.bool false,.int .u64 0,.int .u64 0,.pointer none] 29):=⟨_,rfl⟩
 have sA0 : A0.heap.size = w.heap.size + 1:=by rw [hA0]; simp
 have sA1 : A1.heap.size = w.heap.size + 1 + 1:=by rw [hA1,← sA0]; simp
 have bA0 : But [] w A0:=by rw [hA0]; exact (But.refl _ _).alloc _
 have bA1 : But [] A0 A1:=by rw [hA1]; exact (But.refl _ _).alloc _
 have bW : But [] A1 W:=by rw [hW]; exact (But.refl _ _).alloc _
 have y2 : SBox W w.heap.size [.bool s1,.int .u64 x1,.int .u64 y1,.pointer p1,.bool s2,.int .u64 x2,.int .u64 y2,.pointer p2,.bool s3,.int .u64 x3,.int .u64 y3,.pointer p3]:=by
  have h:=SBox.new w [.bool s1,.int .u64 x1,.int .u64 y1,.pointer p1,.bool s2,.int .u64 x2,.int .u64 y2,.pointer p2,.bool s3,.int .u64 x3,.int .u64 y3,.pointer p3] 157
  change SBox (w.alloc (.cells #[.bool s1,.int .u64 x1,.int .u64 y1,.pointer p1,.bool s2,.int .u64 x2,.int .u64 y2,.pointer p2,.bool s3,.int .u64 x3,.int .u64 y3,.pointer p3] 157)) _ _ at h
  rw [← hA0] at h
  exact (h.but bA1 (by simp) (by simp)).but bW (by simp) (by simp)
 have y3 : SBox W (w.heap.size + 1) [.bool s4,.int .u64 x4,.int .u64 y4,.pointer p4,.bool s5,.int .u64 x5,.int .u64 y5,.pointer p5]:=by
  have h : SBox A1 (w.heap.size + 1) [.bool s4,.int .u64 x4,.int .u64 y4,.pointer p4,.bool s5,.int .u64 x5,.int .u64 y5,.pointer p5]:=by
   rw [hA1,← sA0]
   exact SBox.new A0 [.bool s4,.int .u64 x4,.int .u64 y4,.pointer p4,.bool s5,.int .u64 x5,.int .u64 y5,.pointer p5] 81
  exact h.but bW (by simp) (by simp)
 have x4' : BoxAt W (w.heap.size + 1 + 1) 0:=by
  rw [hW,← sA1]
  exact BoxAt.new A1 false 0 0 none 0 29 (zero_at _)
 have Y2:=hide y2
 have Y3:=hide y3
 have X4:=hide x4'
 have BW:=hide ((bA0.trans' bA1).trans' bW)
 clear y2 y3 x4' bA0 bA1 bW
 go_enter Tryz.func109,Tryz.ntmps109
 go_wp2_with fail
 rw [← hA0,← hA1,← hW]
 refine (unhide RE _ (unhide BW)).mono ?_
 rintro e w1 ⟨v1,rfl,hf1,hb1⟩
 obtain ⟨x6,y6,p6,rfl,-⟩:=id hf1.agg
 generalize decide (M.num < 0) = s6 at *
 have bs1:=hb1.trans' ((But.refl _ _).alloc (.cells #[.bool s6,.int .u64 x6,.int .u64 y6,.pointer p6] 29))
 have B1:=hide ((unhide BW).trans' bs1)
 have Y21:=hide ((unhide Y2).but bs1 (by simp) (by simp))
 have Y31:=hide ((unhide Y3).but bs1 (by simp) (by simp))
 have X41:=hide ((unhide X4).but bs1)
 have Y5:=hide (BoxAt.new w1 s6 x6 y6 p6 _ 29 hf1)
 clear hb1 hf1 bs1 Y2 Y3 X4 BW RE hA0 hA1 hW sA0 sA1
 go_wp2
 generalize w1.heap.size = g5 at *
 generalize w1.alloc (.cells #[.bool s6,.int .u64 x6,.int .u64 y6,.pointer p6] 29) = V1 at *
 generalize hg4 : w.heap.size + 1 + 1 = g4 at *
 generalize hg3 : w.heap.size + 1 = g3 at *
 generalize hg2 : w.heap.size = g2 at *
 obtain ⟨⟨t5,a5,b5,q5,k5,f5⟩,-⟩:=unhide Y5
 have lMm:=len_mul lM l1 12002 (by omega)
 have lD:=len_sub lb lMm 32003 (by omega)
 have lF:=len_mul lD lD 64006 (by omega)
 refine amiss_region2 2 _ _ V1 V1.heap.size g2 g3 s4 x4 y4 p4 t5 a5 b5 q5 s1 x1 y1 p1 b M m1 (by simp) g5 (Nat.le_refl _) (by simp [Act.eval]) (by simp [Act.eval]) (by simp [Act.eval]) ⟨(unhide Y31).cells 0 _ rfl,(unhide Y31).cells 1 _ rfl,(unhide Y31).cells 2 _ rfl,(unhide Y31).cells 3 _ rfl⟩ k5 ⟨(unhide Y21).cells 0 _ rfl,(unhide Y21).cells 1 _ rfl,(unhide Y21).cells 2 _ rfl,(unhide Y21).cells 3 _ rfl⟩ (fun W hb => fracMul_any _ _ _ _ W (f5.but hb) ((unhide H1).but ((unhide B1).trans' hb)) (lM.mono (by omega)) (l1.mono (by omega))) (fun W hb v hv => fracSub_any _ _ _ _ W ((unhide H4).but ((unhide B1).trans' hb)) hv (lb.mono (by omega)) (lMm.mono (by omega))) (fun W hb v hv => square_any _ _ W hv (lD.mono (by omega))) ?_
 intro w2 bn v5 v6 s7 x7 y7 p7 hb2 hBn hp2 hz2 hf2
 simp only [putted,List.foldl_cons,List.foldl_nil,Act.put,List.setIfInBounds_toArray,List.set_cons_zero,List.set_cons_succ]
 have hP2:=put4_but w2 bn s7 x7 y7 p7
 have x6' : BoxAt (put4 w2 bn s7 x7 y7 p7) bn ((b - M * m1) * (b - M * m1)):=BoxAt.put (f:=0) ⟨⟨false,0,0,none,hp2,zero_at _⟩,hz2⟩ hf2
 have hbo : ∀ g ∈ [bn],∃ s,w2.cell? ⟨g,0,none⟩ = some (.bool s):=fun g hg => by simp at hg; subst hg; exact ⟨_,hp2.1⟩
 have lV1 : g2 < V1.heap.size∧g3 < V1.heap.size∧g4 < V1.heap.size∧g5 < V1.heap.size:=⟨(unhide Y21).lt (by simp),(unhide Y31).lt (by simp),(unhide X41).lt,(unhide Y5).lt⟩
 have B2:=hide (((unhide B1).trans' hb2).trans hP2 (fun x hx => by simp at hx; subst hx; exact .inr (by have:=(unhide B1).size; omega)))
 have Y22:=hide (((unhide Y21).but hb2 (by simp) (by simp)).but hP2 (by simp; omega) (by simp))
 have Y32:=hide (((unhide Y31).but hb2 (by simp) (by simp)).but hP2 (by simp; omega) (by simp))
 have X42:=hide (((unhide X41).but hb2).beside hP2 (by simp; omega) hbo)
 have Y52:=hide (((unhide Y5).but hb2).beside hP2 (by simp; omega) hbo)
 have X62:=hide x6'
 generalize put4 w2 bn s7 x7 y7 p7 = V2 at *
 clear hP2 x6' hbo hb2 hBn hp2 hz2 hf2 Y21 Y31 X41 Y5 B1 k5 f5 lV1
 go_wp2
 obtain ⟨⟨t4,a4,b4,q4,k4,-⟩,z4⟩:=unhide X42
 obtain ⟨⟨t5,a5,b5,q5,k5,f5⟩,-⟩:=unhide Y52
 obtain ⟨⟨t6,a6,b6,q6,k6,f6⟩,-⟩:=unhide X62
 have lMM:=len_mul lM lM 20004 (by omega)
 have lMMb:=len_mul lMM l2 22004 (by omega)
 have lA:=len_add lF lMMb 86011 (by omega)
 have loo:=len_mul lo lo 20000 (by omega)
 have lood:=len_mul loo l3 22000 (by omega)
 refine amiss_region3 3 _ _ V2 g2 g3 t6 a6 b6 q6 t5 a5 b5 q5 s2 x2 y2 p2 s5 x5 y5 p5 s3 x3 y3 p3 _ M m2 o m3 g4 g5 bn (by simp) (by simp [Act.eval]) k4 z4 (by simp [Act.eval]) (by simp [Act.eval]) (by simp [Act.eval]) (by simp [Act.eval]) k6 k5 ⟨(unhide Y22).cells 4 _ rfl,(unhide Y22).cells 5 _ rfl,(unhide Y22).cells 6 _ rfl,(unhide Y22).cells 7 _ rfl⟩ ⟨(unhide Y32).cells 4 _ rfl,(unhide Y32).cells 5 _ rfl,(unhide Y32).cells 6 _ rfl,(unhide Y32).cells 7 _ rfl⟩ ⟨(unhide Y22).cells 8 _ rfl,(unhide Y22).cells 9 _ rfl,(unhide Y22).cells 10 _ rfl,(unhide Y22).cells 11 _ rfl⟩ (fun W hb => square_any _ _ W (f5.but hb) (lM.mono (by omega))) (fun W hb v hv => fracMul_any _ _ _ _ W hv ((unhide H2).but ((unhide B2).trans' hb)) (lMM.mono (by omega)) (l2.mono (by omega))) (fun W hb v hv => fracAdd_any _ _ _ _ W (f6.but hb) hv (lF.mono (by omega)) (lMMb.mono (by omega))) (fun W hb => square_any _ _ W ((unhide H5).but ((unhide B2).trans' hb)) (lo.mono (by omega))) (fun W hb v hv => fracMul_any _ _ _ _ W hv ((unhide H3).but ((unhide B2).trans' hb)) (loo.mono (by omega)) (l3.mono (by omega))) (fun W hb v u hv hu => fracAdd_any _ _ _ _ W hv hu (lA.mono (by omega)) (lood.mono (by omega))) ?_
 intro w3 u2 u5 u6 u9 u12 s8 x8 y8 p8 hb3 hf3
 simp only [putted,List.foldl_cons,List.foldl_nil,Act.put,List.setIfInBounds_toArray,List.set_cons_zero,List.set_cons_succ]
 have hP:=put4_but w3 g4 s8 x8 y8 p8
 obtain ⟨m0,m1',m2',m3'⟩:=put4_p4 w3 g4 s8 x8 y8 p8 (k4.but hb3 (by simp))
 have hF : But [] w (put4 w3 g4 s8 x8 y8 p8):=((unhide B2).trans' hb3).trans hP (fun x hx => by simp at hx; subst hx; exact .inr (by omega))
 have hff:=hf3.over (k4.but hb3 (by simp)).1 hP
 generalize put4 w3 g4 s8 x8 y8 p8 = F at *
 clear hP hf3 hb3 k4 z4 k5 k6 f5 f6
 go_wp2
 exact bodyPost_ret (v:=.agg #[.bool s8,.int .u64 x8,.int .u64 y8,.pointer p8]) (by simp [results,Tryz.results109,go_sem,m0,m1',m2',m3']) rfl ⟨_,rfl,hff,hF⟩
set_option maxHeartbeats 16000000 in
set_option maxRecDepth 100000 in
theorem amissTop_ok (q : Option Addr) (n cap : Nat) (ks : List Kd) (yr : Int) (w : World) (hv : KindsAt w (.slice q n cap) ks) (hN : n = ks.length) (hn : n ≤ 40) (hy1 : 1 ≤ yr) (hy2 : yr ≤ 120) (lc : ∀ k,k < n→Len (kdAt ks k).ch 1) (lm : ∀ k,k < n→Len (kdAt ks k).me 1) (lp : ∀ k,k < n→Len (kdAt ks k).sp 1) (s4 : Bool) (x4 y4 : Int) (p4 : Option Addr) (s5 : Bool) (x5 y5 : Int) (p5 : Option Addr) (b o : Rat) (hb : FracAt w (.agg #[.bool s4,.int .u64 x4,.int .u64 y4,.pointer p4]) b) (ho : FracAt w (.agg #[.bool s5,.int .u64 x5,.int .u64 y5,.pointer p5]) o) (lb : Len b 20000) (lo : Len o 10000) (hk : kndE ks = 0) :
  Calls Tryz.prog 41 #[.slice q n cap,.int .i64 yr,.agg #[.bool s4,.int .u64 x4,.int .u64 y4,.pointer p4,.bool s5,.int .u64 x5,.int .u64 y5,.pointer p5]] w fun e w' => ∃ s x y p,e = .returned (.tuple #[.agg #[.bool s,.int .u64 x,.int .u64 y,.pointer p],.nilIface])∧FracAt w' (.agg #[.bool s,.int .u64 x,.int .u64 y,.pointer p]) (amR (mx1 ks) (mx2 ks) (mx3 ks yr) b o)∧But [] w w':=by
 obtain ⟨l1,l2,l3⟩:=len_mx ks yr (by omega) hy1 hy2 (by rw [← hN]; exact lc) (by rw [← hN]; exact lm) (by rw [← hN]; exact lp)
 have CK:=hide (fun W (h : But [] w W) => checkKinds_any q n cap ks yr W (hv.but h) hN hn hy1 hy2 lc lm lp)
 rw [hk] at CK
 have MI : Hid (∀ W,But [] w W→Calls Tryz.prog 106 #[.slice q n cap,.int .i64 yr] W fun e w' => ∃ v,e = .returned v∧MixAt (mx1 ks) (mx2 ks) (mx3 ks yr) w' v∧But [] W w'):=fun W h => by
  have:=mixOf_any q n cap ks yr W (hv.but h) hN hn hy1 hy2 lc lm lp
  rw [hN] at this
  rw [hN]
  exact this
 have AM:=hide (fun W v (h : But [] w W) (hv : MixAt (mx1 ks) (mx2 ks) (mx3 ks yr) W v) => amiss_any v _ _ _ b o s4 x4 y4 p4 s5 x5 y5 p5 W hv (hb.but h) (ho.but h) (l1.mono (by omega)) (l2.mono (by omega)) (l3.mono (by omega)) lb lo)
 generalize amR (mx1 ks) (mx2 ks) (mx3 ks yr) b o = R at *
 obtain ⟨A0,hA0⟩ : ∃ A0,A0 = w.alloc (.cells #[.bool s4,.int .u64 x4,.int .u64 y4,.pointer p4,.bool s5,.int .u64 x5,.int .u64 y5,.pointer p5] 81):=⟨_,rfl⟩
 obtain ⟨W,hW⟩ : ∃ W,W = A0.alloc (.cells #[.bool false,.int .u64 0,.int .u64 0,.pointer none] 29):=⟨_,rfl⟩
 have sA0 : A0.heap.size = w.heap.size + 1:=by rw [hA0]; simp
 have bA0 : But [] w A0:=by rw [hA0]; exact (But.refl _ _).alloc _
 have bW : But [] A0 W:=by rw [hW]; exact (But.refl _ _).alloc _
 have y5 : SBox W w.heap.size [.bool s4,.int .u64 x4,.int .u64 y4,.pointer p4,.bool s5,.int .u64 x5,.int .u64 y5,.pointer p5]:=by
  have h:=SBox.new w [.bool s4,.int .u64 x4,.int .u64 y4,.pointer p4,.bool s5,.int .u64 x5,.int .u64 y5,.pointer p5] 81
  change SBox (w.alloc (.cells #[.bool s4,.int .u64 x4,.int .u64 y4,.pointer p4,.bool s5,.int .u64 x5,.int .u64 y5,.pointer p5] 81)) _ _ at h
  rw [← hA0] at h
  exact h.but bW (by simp) (by simp)
 have x6 : BoxAt W (w.heap.size + 1) 0:=by
  rw [hW,← sA0]
  exact BoxAt.new A0 false 0 0 none 0 29 (zero_at _)
 have Y5:=hide y5
 have X6:=hide x6
 have BW:=hide (bA0.trans' bW)
 clear y5 x6 bA0 bW hv hb ho lb lo lc lm lp hk l1 l2 l3 hN
 go_enter Tryz.func41,Tryz.ntmps41
 go_wp2_with fail
 rw [← hA0,← hW]
 refine (unhide CK _ (unhide BW)).mono ?_
 rintro e w1 ⟨rfl,hb1⟩
 have B1:=hide ((unhide BW).trans' hb1)
 have Y51:=hide ((unhide Y5).but hb1 (by simp) (by simp))
 have X61:=hide ((unhide X6).but hb1)
 clear hb1 BW Y5 X6 CK hA0 hW sA0
 rw [show errV 0 = .nilIface from rfl]
 go_wp2
 generalize hg6 : w.heap.size + 1 = g6 at *
 generalize hg5 : w.heap.size = g5 at *
 obtain ⟨⟨t6,a6,b6,q6,k6,-⟩,z6⟩:=unhide X61
 refine amissTop_region 4 _ _ w1 yr (.slice q n cap) s4 x4 y4 p4 s5 x5 y5 p5 (mx1 ks) (mx2 ks) (mx3 ks yr) R g6 g5 (by simp) (by simp [Act.eval]) k6 z6 (by simp [Act.eval]) (by simp [Act.eval]) (by simp [Act.eval]) (unhide Y51) (fun W hb => unhide MI W ((unhide B1).trans' hb)) (fun W hb v hv => unhide AM W v ((unhide B1).trans' hb) hv) ?_
 intro w2 v2 s8 x8 y8 p8 hb2 hf2
 simp only [putted,List.foldl_cons,List.foldl_nil,Act.put,List.setIfInBounds_toArray,List.set_cons_zero,List.set_cons_succ]
 have hP:=put4_but w2 g6 s8 x8 y8 p8
 obtain ⟨m0,m1,m2,m3⟩:=put4_p4 w2 g6 s8 x8 y8 p8 (k6.but hb2 (by simp))
 have hF : But [] w (put4 w2 g6 s8 x8 y8 p8):=((unhide B1).trans' hb2).trans hP (fun x hx => by simp at hx; subst hx; exact .inr (by omega))
 have hff:=hf2.over (k6.but hb2 (by simp)).1 hP
 generalize put4 w2 g6 s8 x8 y8 p8 = F at *
 clear hP hf2 hb2 k6 z6
 go_wp2
 exact bodyPost_ret (v:=.tuple #[.agg #[.bool s8,.int .u64 x8,.int .u64 y8,.pointer p8],.nilIface]) (by simp [results,Tryz.results41,go_sem,m0,m1,m2,m3]) rfl ⟨s8,x8,y8,p8,rfl,hff,hF⟩
set_option maxHeartbeats 8000000 in
set_option maxRecDepth 100000 in
theorem amissTop_err (q : Option Addr) (n cap : Nat) (ks : List Kd) (yr : Int) (w : World) (hv : KindsAt w (.slice q n cap) ks) (hN : n = ks.length) (hn : n ≤ 40) (hy1 : 1 ≤ yr) (hy2 : yr ≤ 120) (lc : ∀ k,k < n→Len (kdAt ks k).ch 1) (lm : ∀ k,k < n→Len (kdAt ks k).me 1) (lp : ∀ k,k < n→Len (kdAt ks k).sp 1) (s4 : Bool) (x4 y4 : Int) (p4 : Option Addr) (s5 : Bool) (x5 y5 : Int) (p5 : Option Addr) (hk : kndE ks ≠ 0) :
  Calls Tryz.prog 41 #[.slice q n cap,.int .i64 yr,.agg #[.bool s4,.int .u64 x4,.int .u64 y4,.pointer p4,.bool s5,.int .u64 x5,.int .u64 y5,.pointer p5]] w fun e w' => e = .returned (.tuple #[.agg #[.bool false,.int .u64 0,.int .u64 0,.pointer none],.iface 54 (.int .i64 (kndE ks))])∧But [] w w':=by
 have CK:=hide (fun W (h : But [] w W) => checkKinds_any q n cap ks yr W (hv.but h) hN hn hy1 hy2 lc lm lp)
 generalize kndE ks = ce at *
 obtain ⟨A0,hA0⟩ : ∃ A0,A0 = w.alloc (.cells #[.bool s4,.int .u64 x4,.int .u64 y4,.pointer p4,.bool s5,.int .u64 x5,.int .u64 y5,.pointer p5] 81):=⟨_,rfl⟩
 obtain ⟨W,hW⟩ : ∃ W,W = A0.alloc (.cells #[.bool false,.int .u64 0,.int .u64 0,.pointer none] 29):=⟨_,rfl⟩
 have sA0 : A0.heap.size = w.heap.size + 1:=by rw [hA0]; simp
 have bA0 : But [] w A0:=by rw [hA0]; exact (But.refl _ _).alloc _
 have bW : But [] A0 W:=by rw [hW]; exact (But.refl _ _).alloc _
 have x6 : BoxAt W (w.heap.size + 1) 0:=by
  rw [hW,← sA0]
  exact BoxAt.new A0 false 0 0 none 0 29 (zero_at _)
 have X6:=hide x6
 have BW:=hide (bA0.trans' bW)
 clear x6 bA0 bW hv lc lm lp hN
 go_enter Tryz.func41,Tryz.ntmps41
 go_wp2_with fail
 rw [← hA0,← hW]
 refine (unhide CK _ (unhide BW)).mono ?_
 rintro e w1 ⟨rfl,hb1⟩
 have B1:=hide ((unhide BW).trans' hb1)
 have X61:=hide ((unhide X6).but hb1)
 clear hb1 BW X6 CK hA0 hW sA0
 unfold errV
 rw [if_neg hk]
 generalize hg6 : w.heap.size + 1 = g6 at *
 obtain ⟨⟨t2,a2,b2,q2,⟨c0,c1,c2,c3⟩,-⟩,z2⟩:=unhide X61
 have P2 : Hid (P4 w1 g6 t2 a2 b2 q2):=⟨c0,c1,c2,c3⟩
 go_wp2
 have hP:=put4_but w1 g6 false 0 0 none
 obtain ⟨m0,m1,m2,m3⟩:=put4_p4 w1 g6 false 0 0 none (unhide P2)
 have hF : But [] w (put4 w1 g6 false 0 0 none):=(unhide B1).trans hP (fun x hx => by simp at hx; subst hx; exact .inr (by omega))
 change bodyPost _ _ _ _ _ (put4 w1 g6 false 0 0 none)
 generalize put4 w1 g6 false 0 0 none = F at *
 exact bodyPost_ret (v:=.tuple #[.agg #[.bool false,.int .u64 0,.int .u64 0,.pointer none],.iface 54 (.int .i64 ce)]) (by simp [results,Tryz.results41,go_sem,m0,m1,m2,m3]) rfl ⟨rfl,hF⟩
/-- how much of what was seen counts, by kinds -/
def ownK (ks : List Kd) (yr : Int) : Rat:=ownR (mx2 ks) (mx3 ks yr)
theorem len_own {b d : Rat} {m n : Nat} (lb : Len b m) (ld : Len d n) (hne : b.num ≠ 0→(b + d).num ≠ 0) (k : Nat) (hk : 2 * m + n + 1 ≤ k) : Len (ownR b d) k:=by
 unfold ownR
 by_cases h : b.num = 0
 ·rw [if_pos h]; exact len_zero _ (by omega)
 ·rw [if_neg h]
  exact len_div lb (len_add lb ld (m + n + 1) (by omega)) (hne h) k (by omega)
set_option maxHeartbeats 16000000 in
set_option maxRecDepth 100000 in
theorem linear_ok (q : Option Addr) (n cap : Nat) (ks : List Kd) (yr : Int) (w : World) (hv : KindsAt w (.slice q n cap) ks) (hN : n = ks.length) (hn : n ≤ 40) (hy1 : 1 ≤ yr) (hy2 : yr ≤ 120) (lc : ∀ k,k < n→Len (kdAt ks k).ch 1) (lm : ∀ k,k < n→Len (kdAt ks k).me 1) (lp : ∀ k,k < n→Len (kdAt ks k).sp 1) (hne : (mx2 ks).num ≠ 0→(mx2 ks + mx3 ks yr).num ≠ 0) (hk : kndE ks = 0) :
  Calls Tryz.prog 40 #[.slice q n cap,.int .i64 yr] w fun e w' => ∃ v,e = .returned (.tuple #[v,.nilIface])∧LineAt ((((1 : Int) : Rat) - ownK ks yr) * mx1 ks) (ownK ks yr) w' v∧But [] w w':=by
 obtain ⟨l1,l2,l3⟩:=len_mx ks yr (by omega) hy1 hy2 (by rw [← hN]; exact lc) (by rw [← hN]; exact lm) (by rw [← hN]; exact lp)
 have lO : Len (ownK ks yr) 4000:=len_own l2 l3 hne 4000 (by omega)
 have CK:=hide (fun W (h : But [] w W) => checkKinds_any q n cap ks yr W (hv.but h) hN hn hy1 hy2 lc lm lp)
 rw [hk] at CK
 have MI : Hid (∀ W,But [] w W→Calls Tryz.prog 106 #[.slice q n cap,.int .i64 yr] W fun e w' => ∃ v,e = .returned v∧MixAt (mx1 ks) (mx2 ks) (mx3 ks yr) w' v∧But [] W w'):=fun W h => by
  have:=mixOf_any q n cap ks yr W (hv.but h) hN hn hy1 hy2 lc lm lp
  rw [hN] at this
  rw [hN]
  exact this
 have OW : Hid (∀ W va vb,FracAt W va (mx2 ks)→FracAt W vb (mx3 ks yr)→Calls Tryz.prog 107 #[va,vb] W fun e w' => ∃ v,e = .returned v∧FracAt w' v (ownK ks yr)∧But [] W w'):=fun W va vb h1 h2 => ownPart_any va vb _ _ W h1 h2 (l2.mono (by omega)) (l3.mono (by omega)) hne
 generalize ownK ks yr = o at *
 generalize mx1 ks = m1 at *
 generalize mx2 ks = m2 at *
 generalize mx3 ks yr = m3 at *
 have x4 : SBox (w.alloc (.cells #[.bool false,.int .u64 0,.int .u64 0,.pointer none,.bool false,.int .u64 0,.int .u64 0,.pointer none] 81)) w.heap.size [.bool false,.int .u64 0,.int .u64 0,.pointer none,.bool false,.int .u64 0,.int .u64 0,.pointer none]:=SBox.new w _ _
 have bA : But [] w (w.alloc (.cells #[.bool false,.int .u64 0,.int .u64 0,.pointer none,.bool false,.int .u64 0,.int .u64 0,.pointer none] 81)):=(But.refl _ _).alloc _
 have X4:=hide x4
 have BA:=hide bA
 have Q2 : Hid (w.heap.size ≤ w.heap.size):=Nat.le_refl _
 clear x4 bA hv lc lm lp hN hne hk
 go_enter Tryz.func40,Tryz.ntmps40
 go_wp2_with fail
 refine (unhide CK _ (unhide BA)).mono ?_
 rintro e w1 ⟨rfl,hb1⟩
 have B1:=hide ((unhide BA).trans' hb1)
 have X41:=hide ((unhide X4).but hb1 (by simp) (by simp))
 clear hb1 X4 BA CK
 rw [show errV 0 = .nilIface from rfl]
 go_wp2_with fail
 refine (unhide MI _ (unhide B1)).mono ?_
 rintro e w2 ⟨v2,rfl,⟨s1,x1,y1,p1,s2,x2,y2,p2,s3,x3,y3,p3,rfl,h1,h2,h3⟩,hb2⟩
 have bA2 : But [] w2 (w2.alloc (.cells #[.bool s1,.int .u64 x1,.int .u64 y1,.pointer p1,.bool s2,.int .u64 x2,.int .u64 y2,.pointer p2,.bool s3,.int .u64 x3,.int .u64 y3,.pointer p3] 157)):=(But.refl _ _).alloc _
 have bs2:=hb2.trans' bA2
 have B2:=hide ((unhide B1).trans' bs2)
 have X42:=hide ((unhide X41).but bs2 (by simp) (by simp))
 have Y7 : Hid (SBox (w2.alloc (.cells #[.bool s1,.int .u64 x1,.int .u64 y1,.pointer p1,.bool s2,.int .u64 x2,.int .u64 y2,.pointer p2,.bool s3,.int .u64 x3,.int .u64 y3,.pointer p3] 157)) w2.heap.size [.bool s1,.int .u64 x1,.int .u64 y1,.pointer p1,.bool s2,.int .u64 x2,.int .u64 y2,.pointer p2,.bool s3,.int .u64 x3,.int .u64 y3,.pointer p3]):=SBox.new w2 _ _
 have H1:=hide (h1.but bA2)
 have OW2:=hide (unhide OW _ _ _ (h2.but bA2) (h3.but bA2))
 clear hb2 bs2 bA2 h1 h2 h3 X41 B1 MI OW
 go_wp2_with fail
 generalize w2.heap.size = g7 at *
 generalize w2.alloc (.cells #[.bool s1,.int .u64 x1,.int .u64 y1,.pointer p1,.bool s2,.int .u64 x2,.int .u64 y2,.pointer p2,.bool s3,.int .u64 x3,.int .u64 y3,.pointer p3] 157) = V2 at *
 refine (unhide OW2).mono ?_
 rintro e w3 ⟨v3,rfl,hf3,hb3⟩
 obtain ⟨x5,y5,p5,rfl,-⟩:=id hf3.agg
 generalize decide (o.num < 0) = s5 at *
 have bA3 : But [] w3 (w3.alloc (.cells #[.bool s5,.int .u64 x5,.int .u64 y5,.pointer p5] 29)):=(But.refl _ _).alloc _
 have bs3:=hb3.trans' bA3
 have B3:=hide ((unhide B2).trans' bs3)
 have X43:=hide ((unhide X42).but bs3 (by simp) (by simp))
 have Y73:=hide ((unhide Y7).but bs3 (by simp) (by simp))
 have H13:=hide ((unhide H1).but bs3)
 have Y8:=hide (BoxAt.new w3 s5 x5 y5 p5 _ 29 hf3)
 clear hb3 hf3 bA3 bs3 X42 B2 Y7 H1 OW2
 go_wp2
 generalize w3.heap.size = g8 at *
 generalize w3.alloc (.cells #[.bool s5,.int .u64 x5,.int .u64 y5,.pointer p5] 29) = V3 at *
 generalize hg4 : w.heap.size = g4 at *
 obtain ⟨⟨t8,a8,b8,q8,k8,f8⟩,-⟩:=unhide Y8
 have lR:=len_sub ((len_int 1 (by decide)).mono (show 1 ≤ 1 by omega)) lO 4002 (by omega)
 refine linear_region 6 _ _ V3 g7 t8 a8 b8 q8 s1 x1 y1 p1 o m1 g4 g8 (by simp) (by simp [Act.eval]) (unhide X43) rfl (by simp [Act.eval]) (by simp [Act.eval]) k8 ⟨(unhide Y73).cells 0 _ rfl,(unhide Y73).cells 1 _ rfl,(unhide Y73).cells 2 _ rfl,(unhide Y73).cells 3 _ rfl⟩ f8 (fun W hb => creditRest_any _ o W (f8.but hb) (lO.mono (by omega))) (fun W hb v hv => fracMul_any _ _ _ _ W hv ((unhide H13).but hb) (lR.mono (by omega)) (l1.mono (by omega))) ?_
 intro w4 v1' v4 v5 e1 e2 e3 e4 e5 e6 e7 e8 hb4 h1 h2
 simp only [putted,List.foldl_cons,List.foldl_nil,Act.put,List.setIfInBounds_toArray,List.set_cons_zero,List.set_cons_succ]
 have X44:=(unhide X43).but hb4 (by simp) (by simp)
 have hS:=but_setCells w4 g4 [.bool e1,.int .u64 e2,.int .u64 e3,.pointer e4,.bool e5,.int .u64 e6,.int .u64 e7,.pointer e8] 0
 have P:=X44.put (us:=[.bool e1,.int .u64 e2,.int .u64 e3,.pointer e4,.bool e5,.int .u64 e6,.int .u64 e7,.pointer e8]) rfl
 have m0':=P.cells 0 _ rfl
 have m1':=P.cells 1 _ rfl
 have m2':=P.cells 2 _ rfl
 have m3':=P.cells 3 _ rfl
 have m4':=P.cells 4 _ rfl
 have m5':=P.cells 5 _ rfl
 have m6':=P.cells 6 _ rfl
 have m7':=P.cells 7 _ rfl
 have c0:=X44.cells 0 _ rfl
 have hF : But [] w (w4.setCells g4 0 [.bool e1,.int .u64 e2,.int .u64 e3,.pointer e4,.bool e5,.int .u64 e6,.int .u64 e7,.pointer e8]):=((unhide B3).trans' hb4).trans hS (fun x hx => by simp at hx; subst hx; exact .inr (by omega))
 have h1':=h1.over c0 hS
 have h2':=h2.over c0 hS
 generalize w4.setCells g4 0 [.bool e1,.int .u64 e2,.int .u64 e3,.pointer e4,.bool e5,.int .u64 e6,.int .u64 e7,.pointer e8] = F at *
 clear P X44 hS c0 h1 h2 hb4 k8 f8
 go_wp2
 exact bodyPost_ret (v:=.tuple #[.agg #[.bool e1,.int .u64 e2,.int .u64 e3,.pointer e4,.bool e5,.int .u64 e6,.int .u64 e7,.pointer e8],.nilIface]) (by simp [results,Tryz.results40,go_sem,m0',m1',m2',m3',m4',m5',m6',m7']) rfl ⟨_,rfl,⟨e1,e2,e3,e4,e5,e6,e7,e8,rfl,h1',h2'⟩,hF⟩
set_option maxHeartbeats 8000000 in
set_option maxRecDepth 100000 in
theorem linear_err (q : Option Addr) (n cap : Nat) (ks : List Kd) (yr : Int) (w : World) (hv : KindsAt w (.slice q n cap) ks) (hN : n = ks.length) (hn : n ≤ 40) (hy1 : 1 ≤ yr) (hy2 : yr ≤ 120) (lc : ∀ k,k < n→Len (kdAt ks k).ch 1) (lm : ∀ k,k < n→Len (kdAt ks k).me 1) (lp : ∀ k,k < n→Len (kdAt ks k).sp 1) (hk : kndE ks ≠ 0) :
  Calls Tryz.prog 40 #[.slice q n cap,.int .i64 yr] w fun e w' => e = .returned (.tuple #[.agg #[.bool false,.int .u64 0,.int .u64 0,.pointer none,.bool false,.int .u64 0,.int .u64 0,.pointer none],.iface 54 (.int .i64 (kndE ks))])∧But [] w w':=by
 have CK:=hide (fun W (h : But [] w W) => checkKinds_any q n cap ks yr W (hv.but h) hN hn hy1 hy2 lc lm lp)
 generalize kndE ks = ce at *
 have x4 : SBox (w.alloc (.cells #[.bool false,.int .u64 0,.int .u64 0,.pointer none,.bool false,.int .u64 0,.int .u64 0,.pointer none] 81)) w.heap.size [.bool false,.int .u64 0,.int .u64 0,.pointer none,.bool false,.int .u64 0,.int .u64 0,.pointer none]:=SBox.new w _ _
 have bA : But [] w (w.alloc (.cells #[.bool false,.int .u64 0,.int .u64 0,.pointer none,.bool false,.int .u64 0,.int .u64 0,.pointer none] 81)):=(But.refl _ _).alloc _
 have X4:=hide x4
 have BA:=hide bA
 have Q2 : Hid (w.heap.size ≤ w.heap.size):=Nat.le_refl _
 clear x4 bA hv lc lm lp hN
 go_enter Tryz.func40,Tryz.ntmps40
 go_wp2_with fail
 refine (unhide CK _ (unhide BA)).mono ?_
 rintro e w1 ⟨rfl,hb1⟩
 have B1:=hide ((unhide BA).trans' hb1)
 have X41:=hide ((unhide X4).but hb1 (by simp) (by simp))
 clear hb1 X4 BA CK
 unfold errV
 rw [if_neg hk]
 generalize hg4 : w.heap.size = g4 at *
 obtain ⟨u0,c0⟩:=(unhide X41).some 0 (by simp)
 obtain ⟨u1,c1⟩:=(unhide X41).some 1 (by simp)
 obtain ⟨u2,c2⟩:=(unhide X41).some 2 (by simp)
 obtain ⟨u3,c3⟩:=(unhide X41).some 3 (by simp)
 obtain ⟨u4,c4⟩:=(unhide X41).some 4 (by simp)
 obtain ⟨u5,c5⟩:=(unhide X41).some 5 (by simp)
 obtain ⟨u6,c6⟩:=(unhide X41).some 6 (by simp)
 obtain ⟨u7,c7⟩:=(unhide X41).some 7 (by simp)
 have fz:=(unhide X41).loose
 go_wp2
 have hS:=but_setCells w1 g4 [.bool false,.int .u64 0,.int .u64 0,.pointer none,.bool false,.int .u64 0,.int .u64 0,.pointer none] 0
 have P:=(unhide X41).put (us:=[.bool false,.int .u64 0,.int .u64 0,.pointer none,.bool false,.int .u64 0,.int .u64 0,.pointer none]) rfl
 have m0:=P.cells 0 _ rfl
 have m1:=P.cells 1 _ rfl
 have m2:=P.cells 2 _ rfl
 have m3:=P.cells 3 _ rfl
 have m4:=P.cells 4 _ rfl
 have m5:=P.cells 5 _ rfl
 have m6:=P.cells 6 _ rfl
 have m7:=P.cells 7 _ rfl
 have hF : But [] w (w1.setCells g4 0 [.bool false,.int .u64 0,.int .u64 0,.pointer none,.bool false,.int .u64 0,.int .u64 0,.pointer none]):=(unhide B1).trans hS (fun x hx => by simp at hx; subst hx; exact .inr (by omega))
 change bodyPost _ _ _ _ _ (w1.setCells g4 0 [.bool false,.int .u64 0,.int .u64 0,.pointer none,.bool false,.int .u64 0,.int .u64 0,.pointer none])
 generalize w1.setCells g4 0 [.bool false,.int .u64 0,.int .u64 0,.pointer none,.bool false,.int .u64 0,.int .u64 0,.pointer none] = F at *
 exact bodyPost_ret (v:=.tuple #[.agg #[.bool false,.int .u64 0,.int .u64 0,.pointer none,.bool false,.int .u64 0,.int .u64 0,.pointer none],.iface 54 (.int .i64 ce)]) (by simp [results,Tryz.results40,go_sem,m0,m1,m2,m3,m4,m5,m6,m7]) rfl ⟨rfl,hF⟩
end Go.Proofs.YtloojmaamaambaaGreatDoor
