/- How likely each state is behind years, f -/
import Derived.Test.YthlnhheblhapgaaGreatDoorKMGJ
namespace Go.Proofs.YthlnhheblhapgaaGreatDoor
open Go.RowKit
set_option maxHeartbeats 32000000
set_option maxRecDepth 100000
theorem run_sliceY (g o cap l i t:Nat) (hit:i≤t) (hn:t≤cap):∃ q,(∀ W,(Instr.slice 61 (.slice (some ⟨g,o,none⟩) l cap) (some (.int .i64 (i:Int))) (some (.int .i64 (t:Int))) none).run Tryz.prog W=.ok (.slice q (t-i) (cap-i)) W)∧(i<t→q=some ⟨g,o+i*5,none⟩):=by
 have hu:=Tryz.underlying61
 have h1:(0:Int)≤(i:Int):=by omega
 by_cases hi:i<cap
 ·refine ⟨some ⟨g,o+i*5,none⟩,fun W=>?_,fun _=>rfl⟩
  have h2:(i:Int)≤(t:Int):=by omega
  have h3:(t:Int)≤(cap:Int):=by omega
  have h4:(i:Int)<(cap:Int):=by omega
  go_simp
  omega
 ·refine ⟨some ⟨g,o,none⟩,fun W=>?_,fun h=>by omega⟩
  obtain rfl:i=cap:=by omega
  obtain rfl:t=i:=by omega
  go_simp
def prV (V:Nat→Rat) (o:Nat):Nat→Rat
 | 0=>1
 | k+1=>prV V o k*V (o+k)
theorem isN_prV {V:Nat→Rat} {o v:Nat}:∀ k,(∀ j,j<k→isN (V (o+j)) (18446744073709551616^v))→isN (prV V o k) (18446744073709551616^(v*k))
 | 0,_=>isN_one _ (by simp)
 | k+1,h=>by
  have:=isN_prod (isN_prV k (fun j hj=>h j (by omega))) (h k (by omega))
  rw [Nat.mul_succ]
  exact this
theorem isN_led {Y:Nat→Nat→Nat→Rat} {R:Nat→Rat} {n c v o:Nat} (hn:n≤8) (hR:∀ k,k<n→isN (R k) (18446744073709551616^c)):∀ j,(∀ t,t<j→∀ i k,i<n→k<n→isN (Y (o+t) i k) (18446744073709551616^v))→∀ k,k<n→isN (ledR Y n R o j k) (18446744073709551616^(c+(v+1)*j))
 | 0,_,k,hk=>hR k hk
 | j+1,h,k,hk=>by
  have ih:=isN_led hn hR j (fun t ht=>h t (by omega))
  have:=isN_mv hn ih (h j (by omega)) k hk n (Nat.le_refl _)
  rw [Nat.mul_succ,show c+((v+1)*j+(v+1))=c+(v+1)*j+v+1 from by omega]
  exact this
structure ChainN (ny n:Nat) (Y:Nat→Nat→Nat→Rat) (V:Nat→Rat):Prop where
 n1:1≤n
 n8:n≤8
 y1:1≤ny
 y120:ny≤120
 nY:∀ j,j<ny→∀ i k,i<n→k<n→isN (Y j i k) (18446744073709551616^66)
 nV:∀ j,j<ny→isN (V j) (18446744073709551616^66)
theorem isN_ledU {U:Rat} {V:Nat→Rat} {o k c ny:Nat} (hU:isN U (18446744073709551616^c)) (hV:∀ j,j<ny→isN (V j) (18446744073709551616^66)) (hk:o+k≤ny):isN (U*prV V o k) (18446744073709551616^(c+66*k)):=isN_prod hU (isN_prV k (fun j hj=>hV (o+j) (by omega)))
theorem led_any (g ny n:Nat) (Y:Nat→Nat→Nat→Rat) (V:Nat→Rat) (gR:Nat) (s1:Bool) (x1 y1:Int) (p1:Option Addr) (R:Nat→Rat) (U:Rat) (o t c:Nat) (w:World) (hC:ChainAt w g ny n Y V) (hN:ChainN ny n Y V) (hR:RowR w gR n R) (hU:FracAt w (.agg #[.bool s1,.int .u64 x1,.int .u64 y1,.pointer p1]) U)
  (nR:∀ k,k<n→isN (R k) (18446744073709551616^c)) (nU:isN U (18446744073709551616^c)) (hc:c≤380000) (hot:o≤t) (htn:t≤ny) :
  Calls Tryz.prog 25 #[.pointer (some ⟨g,0,none⟩),.agg #[.slice (some ⟨gR,0,none⟩) n n,.bool s1,.int .u64 x1,.int .u64 y1,.pointer p1],.int .i64 (o:Int),.int .i64 (t:Int)] w fun e w'=>∃ u,e=.returned u∧RwAt w' u n (ledR Y n R o (t-o)) (U*prV V o (t-o))∧But [] w w':=by
 obtain ⟨hC0,b,off,cap,hC1,hcap,hYs⟩:=hC
 have n8:=hN.n8
 have n1:=hN.n1
 have y120:=hN.y120
 obtain ⟨m,hm⟩:∃ m,m=t-o:=⟨_,rfl⟩
 rw [← hm]
 have BE:=hide (fun (W:World) (hb:But [] w W) (k:Nat) (hk:k<m) (gR:Nat) (s1:Bool) (x1 y1:Int) (p1:Option Addr) (gY:Nat) (s2:Bool) (x2 y2:Int) (p2:Option Addr) (h1:RowR W gR n (ledR Y n R o k)) (h2:FracAt W (.agg #[.bool s1,.int .u64 x1,.int .u64 y1,.pointer p1]) (U*prV V o k)) (h3:MatR W gY n (Y (o+k))) (h4:FracAt W (.agg #[.bool s2,.int .u64 x2,.int .u64 y2,.pointer p2]) (V (o+k))) =>
  behind_any gR n s1 x1 y1 p1 gY s2 x2 y2 p2 (ledR Y n R o k) (U*prV V o k) (Y (o+k)) (V (o+k)) (c+67*k) 66 W h1 h2 h3 h4 n1 n8 ((isN_len (isN_ledU nU hN.nV (by omega))).mono (by omega)) ((isN_len (hN.nV (o+k) (by omega))).mono (by omega)) (isN_led n8 nR k (fun t ht=>hN.nY (o+t) (by omega))) (hN.nY (o+k) (by omega)) (by omega))
 obtain ⟨V1,hV1⟩:∃ V1,V1=w.alloc (.cells #[.slice (some ⟨gR,0,none⟩) n n,.bool s1,.int .u64 x1,.int .u64 y1,.pointer p1] 68):=⟨_,rfl⟩
 obtain ⟨V2,hV2⟩:∃ V2,V2=V1.alloc (.cells #[.slice none 0 0,.bool false,.int .u64 0,.int .u64 0,.pointer none] 68):=⟨_,rfl⟩
 have b1:But [] w V1:=by rw [hV1];exact (But.refl _ _).alloc _
 have b2:But [] V1 V2:=by rw [hV2];exact (But.refl _ _).alloc _
 have e1:V1.heap.size=w.heap.size+1:=by rw [hV1];simp
 have z5:NewB w.heap.size V2 w.heap.size [.slice (some ⟨gR,0,none⟩) n n,.bool s1,.int .u64 x1,.int .u64 y1,.pointer p1]:=by
  have h:NewB w.heap.size V1 w.heap.size [.slice (some ⟨gR,0,none⟩) n n,.bool s1,.int .u64 x1,.int .u64 y1,.pointer p1]:=by rw [hV1];exact NewB.made _ w [.slice (some ⟨gR,0,none⟩) n n,.bool s1,.int .u64 x1,.int .u64 y1,.pointer p1] _ (Nat.le_refl _)
  exact h.but b2
 have z8:NewB w.heap.size V2 (w.heap.size+1) [.slice none 0 0,.bool false,.int .u64 0,.int .u64 0,.pointer none]:=by
  have h:NewB w.heap.size V2 V1.heap.size [.slice none 0 0,.bool false,.int .u64 0,.int .u64 0,.pointer none]:=by rw [hV2];exact NewB.made _ V1 [.slice none 0 0,.bool false,.int .u64 0,.int .u64 0,.pointer none] _ (by omega)
  rw [e1] at h
  exact h
 have bb:=b1.trans' b2
 have II:Hid ((∃ gR s1 x1 y1 p1,NewB w.heap.size V2 w.heap.size [.slice (some ⟨gR,0,none⟩) n n,.bool s1,.int .u64 x1,.int .u64 y1,.pointer p1]∧RowR V2 gR n (ledR Y n R o 0)∧FracAt V2 (.agg #[.bool s1,.int .u64 x1,.int .u64 y1,.pointer p1]) (U*prV V o 0))∧NewB w.heap.size V2 (w.heap.size+1) [.slice none 0 0,.bool false,.int .u64 0,.int .u64 0,.pointer none]∧But [] w V2):=⟨⟨gR,s1,x1,y1,p1,z5,hR.but bb,by show FracAt V2 _ (U*1);rw [Rat.mul_one];exact hU.but bb⟩,z8,bb⟩
 have hgl:g<w.heap.size:=lt_of_cell hC1
 have HW:=hide (hV2.trans (by rw [hV1]))
 have HY:=hide hYs
 obtain ⟨qs,hsl,hq⟩:=run_sliceY b off cap ny o t hot (by omega)
 rw [← hm] at hsl
 have HQ:=hide hq
 clear hC0 hYs hR hU nR nU z5 z8 bb b1 b2 e1 hV1 hV2 V1 hN hq
 have t1:(o:Int)≤(t:Int):=by omega
 go_enter Tryz.func25,Tryz.ntmps25
 go_wp2
 rw [← unhide HW]
 obtain ⟨g5,hg5⟩:∃ g5,g5=w.heap.size:=⟨_,rfl⟩
 obtain ⟨g8,hg8⟩:∃ g8,g8=w.heap.size+1:=⟨_,rfl⟩
 rw [← hg8,← hg5] at II
 rw [← hg8,← hg5]
 have o58:g5<g8:=by omega
 have Q5:Hid (w.heap.size≤g5):=by show _≤_;omega
 have HC1:=hide hC1
 clear hg5 hg8 HW hC1 hgl
 go_loopw [19] (fun iv wr=>∃ k:Nat,k≤m∧iv=.int .i64 (k:Int)∧Hid ((∃ gR s1 x1 y1 p1,NewB g5 wr g5 [.slice (some ⟨gR,0,none⟩) n n,.bool s1,.int .u64 x1,.int .u64 y1,.pointer p1]∧RowR wr gR n (ledR Y n R o k)∧FracAt wr (.agg #[.bool s1,.int .u64 x1,.int .u64 y1,.pointer p1]) (U*prV V o k))∧NewB g5 wr g8 [.slice none 0 0,.bool false,.int .u64 0,.int .u64 0,.pointer none]∧But [] w wr)) (fun iv _=>m-(intOf iv).toNat)
 case atStart=>exact ⟨0,Nat.zero_le _,rfl,unhide II⟩
 case round =>
  obtain ⟨k,hk,rfl,HI⟩:=hrel
  rename World=>wr
  clear II
  by_cases hlt:k<m
  ·obtain rfl:=unhide HQ (by omega)
   obtain ⟨⟨gR,s1,x1,y1,p1,z5,hr,hu⟩,z8,bw⟩:=unhide HI
   obtain ⟨gY,hy0,hyM,s2,x2,y2,p2,⟨d1,d2,d3,d4⟩,hyV⟩:=(unhide HY (o+k) (by omega)).but bw
   have eo:off+(o+k)*5=off+o*5+k*5:=by rw [Nat.add_mul];omega
   rw [eo] at hy0 d1 d2 d3 d4
   have e5:off+o*5+k*5+1+1=off+o*5+k*5+2:=rfl
   have e6:off+o*5+k*5+1+2=off+o*5+k*5+3:=rfl
   have e7:off+o*5+k*5+1+3=off+o*5+k*5+4:=rfl
   rw [e5] at d2
   rw [e6] at d3
   rw [e7] at d4
   obtain ⟨A,hA⟩:∃ A,A=wr.alloc (.cells #[.slice (some ⟨gY,0,none⟩) n n,.bool s2,.int .u64 x2,.int .u64 y2,.pointer p2] 76):=⟨_,rfl⟩
   have bA:But [] wr A:=by rw [hA];exact (But.refl _ _).alloc _
   have BB:=hide (unhide BE A (bw.trans' bA) k hlt gR s1 x1 y1 p1 gY s2 x2 y2 p2 (hr.but bA) (hu.but bA) (hyM.but bA) (hyV.but bA))
   rw [hA] at BB
   have a0:=z5.cells 0 _ rfl
   have a1:=z5.cells 1 _ rfl
   have a2:=z5.cells 2 _ rfl
   have a3:=z5.cells 3 _ rfl
   have a4:=z5.cells 4 _ rfl
   have lg5:g5<wr.heap.size:=z5.lt
   have KK:=hide (And.intro (z5.but bA) (And.intro (z8.but bA) (bw.trans' bA)))
   have HA:=hide hA
   clear z5 hr hu z8 bw hyM hyV bA hA eo e5 e6 e7 HI
   go_wp2_with fail
   refine (unhide BB).mono ?_
   rintro e w2 ⟨u,rfl,⟨gn,s3,x3,y3,p3,rfl,hrn,hfn⟩,hb2⟩
   rw [← unhide HA] at hb2
   have z5:=(unhide KK).1.but hb2
   have z8:=(unhide KK).2.1.but hb2
   have bw:=(unhide KK).2.2.trans' hb2
   have hb5:=but_setCells w2 g5 [.slice (some ⟨gn,0,none⟩) n n,.bool s3,.int .u64 x3,.int .u64 y3,.pointer p3] 0
   have hc1:∀ g ∈ [g5],∃ s,w2.cell? ⟨g,1,none⟩=some (.bool s):=fun g hg=>by simp at hg;subst hg;exact ⟨_,z5.cells 1 _ rfl⟩
   have JJ:Hid ((∃ gR s1 x1 y1 p1,NewB g5 (w2.setCells g5 0 [.slice (some ⟨gn,0,none⟩) n n,.bool s3,.int .u64 x3,.int .u64 y3,.pointer p3]) g5 [.slice (some ⟨gR,0,none⟩) n n,.bool s1,.int .u64 x1,.int .u64 y1,.pointer p1]∧RowR (w2.setCells g5 0 [.slice (some ⟨gn,0,none⟩) n n,.bool s3,.int .u64 x3,.int .u64 y3,.pointer p3]) gR n (ledR Y n R o (k+1))∧FracAt (w2.setCells g5 0 [.slice (some ⟨gn,0,none⟩) n n,.bool s3,.int .u64 x3,.int .u64 y3,.pointer p3]) (.agg #[.bool s1,.int .u64 x1,.int .u64 y1,.pointer p1]) (U*prV V o (k+1)))∧NewB g5 (w2.setCells g5 0 [.slice (some ⟨gn,0,none⟩) n n,.bool s3,.int .u64 x3,.int .u64 y3,.pointer p3]) g8 [.slice none 0 0,.bool false,.int .u64 0,.int .u64 0,.pointer none]∧But [] w (w2.setCells g5 0 [.slice (some ⟨gn,0,none⟩) n n,.bool s3,.int .u64 x3,.int .u64 y3,.pointer p3])) :=
    ⟨⟨gn,s3,x3,y3,p3,z5.put rfl,hrn.row.rowR.besideY hb5 hc1,by
     have:=hfn.besideY hb5 hc1
     rw [Rat.mul_assoc] at this
     exact this⟩,z8.beside hb5 (by simp;omega),bw.trans hb5 (fun x hx=>by simp at hx;subst hx;exact .inr (unhide Q5))⟩
   have a0:=z5.cells 0 _ rfl
   have a1:=z5.cells 1 _ rfl
   have a2:=z5.cells 2 _ rfl
   have a3:=z5.cells 3 _ rfl
   have a4:=z5.cells 4 _ rfl
   have af:=z5.loose
   clear hb5 hc1 z5 z8 bw hb2 hrn hfn BB KK HA hy0 d1 d2 d3 d4
   go_wp2
   exact ⟨⟨k+1,by omega,by go_num,unhide JJ⟩,by simp [intOf];omega⟩
  ·obtain rfl:k=m:=by omega
   obtain ⟨⟨gR,s1,x1,y1,p1,z5,hr,hu⟩,z8,bw⟩:=unhide HI
   have a0:=z5.cells 0 _ rfl
   have a1:=z5.cells 1 _ rfl
   have a2:=z5.cells 2 _ rfl
   have a3:=z5.cells 3 _ rfl
   have a4:=z5.cells 4 _ rfl
   have c0:=z8.cells 0 _ rfl
   have c1:=z8.cells 1 _ rfl
   have c2:=z8.cells 2 _ rfl
   have c3:=z8.cells 3 _ rfl
   have c4:=z8.cells 4 _ rfl
   have rf:=z8.loose
   have K:=hide (And.intro hr (And.intro hu (And.intro z8 bw)))
   clear z5 hr hu z8 bw HI
   go_wp2
   obtain ⟨hr,hu,z8,bw⟩:=unhide K
   have hb:=but_setCells wr g8 [.slice (some ⟨gR,0,none⟩) n n,.bool s1,.int .u64 x1,.int .u64 y1,.pointer p1] 0
   have y8:=z8.put (us:=[.slice (some ⟨gR,0,none⟩) n n,.bool s1,.int .u64 x1,.int .u64 y1,.pointer p1]) rfl
   change bodyPost _ _ _ _ _ (wr.setCells g8 0 [.slice (some ⟨gR,0,none⟩) n n,.bool s1,.int .u64 x1,.int .u64 y1,.pointer p1])
   have hc1:∀ g ∈ [g8],∃ s,wr.cell? ⟨g,1,none⟩=some (.bool s):=fun g hg=>by simp at hg;subst hg;exact ⟨_,c1⟩
   have hF:But [] w (wr.setCells g8 0 [.slice (some ⟨gR,0,none⟩) n n,.bool s1,.int .u64 x1,.int .u64 y1,.pointer p1]):=bw.trans hb (fun x hx=>by simp at hx;subst hx;exact .inr (by have:=unhide Q5;omega))
   have rF:=hr.besideY hb hc1
   have fF:=hu.besideY hb hc1
   have m0:=y8.cells 0 _ rfl
   have m1:=y8.cells 1 _ rfl
   have m2:=y8.cells 2 _ rfl
   have m3:=y8.cells 3 _ rfl
   have m4:=y8.cells 4 _ rfl
   generalize wr.setCells g8 0 [.slice (some ⟨gR,0,none⟩) n n,.bool s1,.int .u64 x1,.int .u64 y1,.pointer p1]=F at *
   exact bodyPost_ret (v:=.agg #[.slice (some ⟨gR,0,none⟩) n n,.bool s1,.int .u64 x1,.int .u64 y1,.pointer p1]) (by simp [results,Tryz.results25,go_sem,m0,m1,m2,m3,m4]) rfl ⟨_,rfl,⟨gR,s1,x1,y1,p1,rfl,rF,fF⟩,hF⟩
end Go.Proofs.YthlnhheblhapgaaGreatDoor

namespace Go.Proofs.YthlnhheblhapgaaGreatDoor
open Go.RowKit
set_option maxHeartbeats 8000000
set_option maxRecDepth 100000
theorem chYears_any (g ny n:Nat) (Y:Nat→Nat→Nat→Rat) (V:Nat→Rat) (w:World) (hC:ChainAt w g ny n Y V) :
  Calls Tryz.prog 7 #[.pointer (some ⟨g,0,none⟩)] w fun e w'=>e=.returned (.int .i64 (ny:Int))∧But [] w w':=by
 obtain ⟨-,b,off,cap,hC1,-,-⟩:=hC
 go_enter Tryz.func7,Tryz.ntmps7
 go_wp2
 go_ret
 exact ⟨rfl,But.refl _ _⟩
theorem chStates_any (g ny n:Nat) (Y:Nat→Nat→Nat→Rat) (V:Nat→Rat) (w:World) (hC:ChainAt w g ny n Y V) :
  Calls Tryz.prog 11 #[.pointer (some ⟨g,0,none⟩)] w fun e w'=>e=.returned (.int .i64 (n:Int))∧But [] w w':=by
 obtain ⟨hC0,-⟩:=hC
 go_enter Tryz.func11,Tryz.ntmps11
 go_wp2
 go_ret
 exact ⟨rfl,But.refl _ _⟩
theorem chHas_any (g ny n k:Nat) (Y:Nat→Nat→Nat→Rat) (V:Nat→Rat) (w:World) (hC:ChainAt w g ny n Y V) (hk:k<n) :
  Calls Tryz.prog 29 #[.pointer (some ⟨g,0,none⟩),.int .i64 (k:Int)] w fun e w'=>e=.returned (.bool true)∧But [] w w':=by
 obtain ⟨hC0,-⟩:=hC
 have h1:(0:Int)≤(k:Int):=by omega
 have h2:(k:Int)<(n:Int):=by omega
 go_enter Tryz.func29,Tryz.ntmps29
 go_wp2
 go_ret
 refine ⟨?_,But.refl _ _⟩
 first | rfl | simp [h1,h2]
theorem chLasts_any (g ny n o t:Nat) (Y:Nat→Nat→Nat→Rat) (V:Nat→Rat) (w:World) (hC:ChainAt w g ny n Y V) (hot:o≤t) (htn:t≤ny) :
  Calls Tryz.prog 23 #[.pointer (some ⟨g,0,none⟩),.int .i64 (o:Int),.int .i64 (t:Int)] w fun e w'=>e=.returned (.bool true)∧But [] w w':=by
 have YE:=hide (fun W (hb:But [] w W)=>chYears_any g ny n Y V W (hC.but hb))
 have h1:(0:Int)≤(o:Int):=by omega
 have h2:(o:Int)≤(t:Int):=by omega
 have h3:(t:Int)≤(ny:Int):=by omega
 clear hC
 go_enter Tryz.func23,Tryz.ntmps23
 go_wp2_with fail
 refine (unhide YE _ (But.refl _ _)).mono ?_
 rintro e w1 ⟨rfl,hb1⟩
 have B1:=hide hb1
 clear hb1
 go_wp2
 go_ret
 refine ⟨?_,unhide B1⟩
 first | rfl | simp [h1,h2,h3]
def unitR (st:Nat):Nat→Rat:=fun k=>if k=st then 1 else 0
theorem alone_any (g ny n st:Nat) (Y:Nat→Nat→Nat→Rat) (V:Nat→Rat) (w:World) (hC:ChainAt w g ny n Y V) (hn:n<1000000) (hst:st<n) :
  Calls Tryz.prog 30 #[.pointer (some ⟨g,0,none⟩),.int .i64 (st:Int)] w fun e w'=>∃ v,e=.returned v∧RwNew w.heap.size n (unitR st) 1 w' v∧But [] w w':=by
 obtain ⟨hC0,-⟩:=hC
 have hgl:g<w.heap.size:=lt_of_cell hC0
 have hmk:=fun W=>run_makeF W n hn
 obtain ⟨ws,wx,FW,CW⟩:=whole_is 1 (by omega) (by omega)
 have HFW:=hide FW
 have HCW:=hide CW
 obtain ⟨V1,hV1⟩:∃ V1,V1=w.alloc (.cells #[.slice none 0 0,.bool false,.int .u64 0,.int .u64 0,.pointer none] 68):=⟨_,rfl⟩
 obtain ⟨V2,hV2⟩:∃ V2,V2=V1.alloc (.cells (madeCells #[.bool false,.int .u64 0,.int .u64 0,.pointer none] (n*4)) 41):=⟨_,rfl⟩
 have b1:But [] w V1:=by rw [hV1];exact (But.refl _ _).alloc _
 have b2:But [] V1 V2:=by rw [hV2];exact (But.refl _ _).alloc _
 have e1:V1.heap.size=w.heap.size+1:=by rw [hV1];simp
 have z4:NewB w.heap.size V2 w.heap.size [.slice none 0 0,.bool false,.int .u64 0,.int .u64 0,.pointer none]:=by
  have h:NewB w.heap.size V1 w.heap.size [.slice none 0 0,.bool false,.int .u64 0,.int .u64 0,.pointer none]:=by rw [hV1];exact NewB.made _ w [.slice none 0 0,.bool false,.int .u64 0,.int .u64 0,.pointer none] _ (Nat.le_refl _)
  exact h.but b2
 have zr:NewR w.heap.size V2 (w.heap.size+1) n (fun _=>0):=by
  have h:NewR w.heap.size V2 V1.heap.size n (fun _=>0):=by rw [hV2];exact ⟨RowOf.made V1 n,by omega,by simp⟩
  rw [e1] at h
  exact h
 have II:=hide (And.intro z4 (And.intro zr (b1.trans' b2)))
 have HW:=hide (hV2.trans (by rw [hV1]))
 have h1:(st:Int)<(n:Int):=by omega
 clear FW CW b1 b2 z4 zr hV1 hV2 e1 V1
 go_enter Tryz.func30,Tryz.ntmps30
 go_wp2_with fail
 rw [← unhide HW]
 refine (unhide HCW _).mono ?_
 rintro e w1 ⟨rfl,hb1⟩
 obtain ⟨z4,zr,bw⟩:=unhide II
 replace z4:=z4.but hb1
 replace zr:=zr.but hb1
 replace bw:=bw.trans' hb1
 obtain ⟨g4,hg4⟩:∃ g4,g4=w.heap.size:=⟨_,rfl⟩
 obtain ⟨gq,hgq⟩:∃ gq,gq=w.heap.size+1:=⟨_,rfl⟩
 rw [← hgq,← hg4] at zr
 rw [← hg4] at z4
 rw [← hgq,← hg4]
 have ho:g4<gq:=by omega
 have Q4:Hid (w.heap.size≤g4):=by show _≤_;omega
 clear hb1 II HW hmk hC0 hgl hg4 hgq
 obtain ⟨s0,x0,y0,p0,⟨d0,d1,d2,d3⟩,-⟩:=zr.row.told st hst
 have fz:=zr.row.loose
 have K1:=hide (And.intro z4 (And.intro zr bw))
 clear z4 zr bw
 go_wp2_with fail
 refine (unhide HCW _).mono ?_
 rintro e w2 ⟨rfl,hb2⟩
 replace hb2:But [] (w1.setCells gq (st*4) [.bool ws,.int .u64 wx,.int .u64 0,.pointer none]) w2:=hb2
 obtain ⟨z4,zr,bw⟩:=unhide K1
 obtain ⟨tb,htb⟩:=zr.row.bool (by omega)
 have hbs:=but_setCells w1 gq [.bool ws,.int .u64 wx,.int .u64 0,.pointer none] (st*4)
 have zr2:=(zr.put hst ws wx 0 none _ (unhide HFW w1)).but hb2
 have z42:=(z4.beside hbs (by simp;omega)).but hb2
 have bw2:=(bw.trans hbs (fun x hx=>by simp at hx;subst hx;exact .inr (by have:=unhide Q4;omega))).trans' hb2
 have c0:=z42.cells 0 _ rfl
 have c1:=z42.cells 1 _ rfl
 have c2:=z42.cells 2 _ rfl
 have c3:=z42.cells 3 _ rfl
 have c4:=z42.cells 4 _ rfl
 have rf:=z42.loose
 have K:=hide (And.intro z42 (And.intro zr2 bw2))
 clear z4 zr bw htb hbs zr2 z42 bw2 hb2 K1 d0 d1 d2 d3 fz
 go_wp2
 obtain ⟨z4,zr,bw⟩:=unhide K
 have hb:=but_setCells w2 g4 [.slice (some ⟨gq,0,none⟩) n n,.bool ws,.int .u64 wx,.int .u64 0,.pointer none] 0
 have y4:=z4.put (us:=[.slice (some ⟨gq,0,none⟩) n n,.bool ws,.int .u64 wx,.int .u64 0,.pointer none]) rfl
 change bodyPost _ _ _ _ _ (w2.setCells g4 0 [.slice (some ⟨gq,0,none⟩) n n,.bool ws,.int .u64 wx,.int .u64 0,.pointer none])
 have hc1:∀ g ∈ [g4],∃ s,w2.cell? ⟨g,1,none⟩=some (.bool s):=fun g hg=>by simp at hg;subst hg;exact ⟨_,c1⟩
 have hF:But [] w (w2.setCells g4 0 [.slice (some ⟨gq,0,none⟩) n n,.bool ws,.int .u64 wx,.int .u64 0,.pointer none]):=bw.trans hb (fun x hx=>by simp at hx;subst hx;exact .inr (unhide Q4))
 have rF:NewR w.heap.size (w2.setCells g4 0 [.slice (some ⟨gq,0,none⟩) n n,.bool ws,.int .u64 wx,.int .u64 0,.pointer none]) gq n (unitR st):=⟨RowOf.congr ⟨zr.row.rowR.besideY hb hc1,fun o=>(hb.frozen (p:=⟨gq,o,none⟩) zr.lt (by simp;omega)).trans (zr.row.loose o)⟩ (fun k _=>by unfold setF unitR;rfl),by have:=unhide Q4;omega,Nat.lt_of_lt_of_le zr.lt hb.size⟩
 have m0:=y4.cells 0 _ rfl
 have m1:=y4.cells 1 _ rfl
 have m2:=y4.cells 2 _ rfl
 have m3:=y4.cells 3 _ rfl
 have m4:=y4.cells 4 _ rfl
 generalize w2.setCells g4 0 [.slice (some ⟨gq,0,none⟩) n n,.bool ws,.int .u64 wx,.int .u64 0,.pointer none]=F at *
 exact bodyPost_ret (v:=.agg #[.slice (some ⟨gq,0,none⟩) n n,.bool ws,.int .u64 wx,.int .u64 0,.pointer none]) (by simp [results,Tryz.results30,go_sem,m0,m1,m2,m3,m4]) rfl ⟨_,rfl,⟨gq,ws,wx,0,none,rfl,rF,unhide HFW F⟩,hF⟩
end Go.Proofs.YthlnhheblhapgaaGreatDoor

namespace Go.Proofs.YthlnhheblhapgaaGreatDoor
open Go.RowKit
set_option maxHeartbeats 32000000
set_option maxRecDepth 100000
theorem rwU_pos (fs:List Rat):0<rwU fs:=by
 have:=com_pos fs 1 (by omega)
 unfold rwU
 exact Rat.intCast_pos.2 (by omega)
theorem prV_pos {V:Nat→Rat} {o:Nat}:∀ k,(∀ j,j<k→0<V (o+j))→0<prV V o k
 | 0,_=>by show (0:Rat)<1;decide
 | k+1,h=>Rat.mul_pos (prV_pos k (fun j hj=>h j (by omega))) (h k (by omega))
theorem num_ne {x:Rat} (h:0<x):x.num≠0:=fun e=>by
 rw [Rat.num_eq_zero.1 e] at h
 exact absurd h (by decide)
def rwR (fs:List Rat) (k:Nat):Rat:=fs[k]?.getD 0*rwU fs
theorem isN_rwU {fs:List Rat} {n c:Nat} (hn:fs.length≤n) (h8:n≤8) (lf:∀ f ∈ fs,Len f c):isN (rwU fs) (18446744073709551616^(9*c+1)):=by
 refine isN_of (Rat.le_of_lt (rwU_pos fs)) ⟨_,rfl⟩ ((len_rwU lf).mono ?_)
 have:fs.length*c≤8*c:=Nat.mul_le_mul (by omega) (Nat.le_refl _)
 omega
theorem isN_rwR {fs:List Rat} {n c:Nat} (hn:fs.length≤n) (h8:n≤8) (_hc1:1≤c) (lf:∀ f ∈ fs,Len f c) (h0:∀ f ∈ fs,0≤f) (k:Nat):isN (rwR fs k) (18446744073709551616^(9*c+1)):=by
 by_cases hk:k<fs.length
 ·have hm:fs[k] ∈ fs:=List.getElem_mem hk
  unfold rwR
  rw [List.getElem?_eq_getElem hk,Option.getD_some]
  refine isN_of (Rat.mul_nonneg (h0 _ hm) (Rat.le_of_lt (rwU_pos fs))) ?_ ?_
  ·obtain ⟨z,hz⟩:=com_whole fs 1 fs[k] hm
   exact ⟨z,hz⟩
  ·refine len_mul (lf _ hm) (len_rwU lf) _ ?_
   have:fs.length*c≤8*c:=Nat.mul_le_mul (by omega) (Nat.le_refl _)
   omega
 ·unfold rwR
  rw [List.getElem?_eq_none (by omega)]
  show isN (0*rwU fs) _
  rw [Rat.zero_mul]
  exact isN_zero _
def SpreadPost (fs:List Rat) (_ny n:Nat) (Y:Nat→Nat→Nat→Rat) (V:Nat→Rat) (o t:Nat) (w:World) (e:Ending) (w':World):Prop:=But [] w w' ∧
 ((RowOkP fs n∧∃ g,e=.returned (.tuple #[.slice (some ⟨g,0,none⟩) n n,.nilIface])∧RowR w' g n (fun k=>ledR Y n (rwR fs) o (t-o) k/(rwU fs*prV V o (t-o)))) ∨
 (¬ RowOkP fs n∧∃ c:Int,0<c∧c<16∧e=.returned (.tuple #[.slice none 0 0,.iface 26 (.int .i64 c)])))
theorem spread_any (g ny n:Nat) (Y:Nat→Nat→Nat→Rat) (V:Nat→Rat) (v:Value) (fs:List Rat) (o t c:Nat) (m:Int) (w:World) (hC:ChainAt w g ny n Y V) (hN:ChainN ny n Y V) (pV:∀ j,j<ny→0<V j) (hv:FracsAt w v fs) (hl:fs.length<1000000) (lf:∀ f ∈ fs,Len f c) (hc1:1≤c) (hc:c≤16000) (hot:o≤t) (htn:t≤ny) (htab:Lib.TabIs Tryz.prog w "internal/strconv.uint64pow10" .u64 Lib.pow10Tab) (hm:w.cell? ⟨4,0,none⟩=some (.int .i64 m)) :
  Calls Tryz.prog 9 #[.pointer (some ⟨g,0,none⟩),v,.int .i64 (o:Int),.int .i64 (t:Int)] w (SpreadPost fs ny n Y V o t w):=by
 obtain ⟨q,cap,rfl,hcap,-⟩:=id hv
 have n8:=hN.n8
 have n1:=hN.n1
 have y120:=hN.y120
 have hn:n<1000000:=by omega
 have LA:=hide (fun W (hb:But [] w W)=>chLasts_any g ny n o t Y V W (hC.but hb) hot htn)
 have CR:=hide (fun W (hb:But [] w W)=>checkRow_any _ fs n c W (hv.but hb) n8 hl lf hc1 (by omega))
 have RO:=hide (fun W (hb:But [] w W) (hok:fs.length=n)=>rowOf_any q fs.length cap c fs m W (hv.but hb) rfl (by omega) lf (by omega) (TabIs.but htab hb) (hb.cell_some hm (by simp)))
 have LE:=hide (fun W (hb:But [] w W) (hok:RowOkP fs n) (gR:Nat) (s1:Bool) (x1 y1:Int) (p1:Option Addr) (h1:RowR W gR n (rwR fs)) (h2:FracAt W (.agg #[.bool s1,.int .u64 x1,.int .u64 y1,.pointer p1]) (rwU fs))=>led_any g ny n Y V gR s1 x1 y1 p1 (rwR fs) (rwU fs) o t (9*c+1) W (hC.but hb) hN h1 h2 (fun k _=>isN_rwR (Nat.le_of_eq hok.1) n8 hc1 lf hok.2.1 k) (isN_rwU (Nat.le_of_eq hok.1) n8 lf) (by omega) hot htn)
 have LD:Hid (RowOkP fs n→(∀ k,k<n→Len (ledR Y n (rwR fs) o (t-o) k) 160000)∧Len (rwU fs*prV V o (t-o)) 160000∧(rwU fs*prV V o (t-o)).num≠0):=fun hok=>by
  refine ⟨fun k hk=>?_,?_,?_⟩
  ·exact (isN_len (isN_led n8 (fun k _=>isN_rwR (Nat.le_of_eq hok.1) n8 hc1 lf hok.2.1 k) (t-o) (fun i hi=>hN.nY (o+i) (by omega)) k hk)).mono (by omega)
  ·exact (isN_len (isN_ledU (isN_rwU (Nat.le_of_eq hok.1) n8 lf) hN.nV (by omega))).mono (by omega)
  ·exact num_ne (Rat.mul_pos (rwU_pos fs) (prV_pos _ (fun j hj=>pV (o+j) (by omega))))
 have POK:Hid (RowOkP fs n→∀ g e w',e=.returned (.tuple #[.slice (some ⟨g,0,none⟩) n n,.nilIface])→But [] w w'→RowR w' g n (fun k=>ledR Y n (rwR fs) o (t-o) k/(rwU fs*prV V o (t-o)))→SpreadPost fs ny n Y V o t w e w'):=fun h g e w' he hb hr=>⟨hb,.inl ⟨h,g,he,hr⟩⟩
 have PNO:Hid (¬ RowOkP fs n→∀ (c:Int) e w',0<c→c<16→e=.returned (.tuple #[.slice none 0 0,.iface 26 (.int .i64 c)])→But [] w w'→SpreadPost fs ny n Y V o t w e w'):=fun h c e w' h1 h2 he hb=>⟨hb,.inr ⟨h,c,h1,h2,he⟩⟩
 obtain ⟨hC0,-⟩:=hC
 have hmk:=fun W=>run_makeF W n hn
 obtain ⟨ln,hln⟩:∃ ln,ln=fs.length:=⟨_,rfl⟩
 rw [← hln] at CR RO ⊢
 have HLN:=hide hln
 clear hv hl lf htab hm hN pV hln hcap
 go_enter Tryz.func9,Tryz.ntmps9
 go_wp2_with fail
 refine (unhide LA _ (But.refl _ _)).mono ?_
 rintro e w1 ⟨rfl,hb1⟩
 have B1:=hide hb1
 replace hC0:=hb1.cell_some hC0 (by simp)
 clear hb1 LA
 go_wp2_with fail
 refine (unhide CR _ (unhide B1)).mono ?_
 rintro e w2 ⟨r,rfl,hb2,hr⟩
 have B2:=hide ((unhide B1).trans' hb2)
 replace hC0:=hb2.cell_some hC0 (by simp)
 clear hb2 B1 CR
 rcases hr with ⟨hok,rfl⟩ | ⟨hno,cc,hcc1,hcc2,rfl⟩
 ·have HOK:=hide hok
  have en:ln=n:=(unhide HLN).trans hok.1
  subst en
  obtain ⟨lR,lU,nU⟩:=unhide LD hok
  have LR:=hide lR
  have LU:=hide lU
  have NU:=hide nU
  have RR:=hide (unhide RO w2 (unhide B2) rfl)
  clear hok LD RO lR lU nU
  go_wp2_with fail
  refine (unhide RR).mono ?_
  rintro e w3 ⟨u,rfl,⟨gR,s1,x1,y1,p1,rfl,hrn,hfn⟩,hb3⟩
  have B3:=hide ((unhide B2).trans' hb3)
  replace hC0:=hb3.cell_some hC0 (by simp)
  have LL:=hide (unhide LE w3 (unhide B3) (unhide HOK) gR s1 x1 y1 p1 hrn.row.rowR hfn)
  clear hb3 B2 RR hrn hfn LE
  go_wp2_with fail
  refine (unhide LL).mono ?_
  rintro e w4 ⟨u,rfl,⟨gE,s2,x2,y2,p2,rfl,hr4,hf4⟩,hb4⟩
  have B4:=hide ((unhide B3).trans' hb4)
  replace hC0:=hb4.cell_some hC0 (by simp)
  have hgl:g<w4.heap.size:=lt_of_cell hC0
  obtain ⟨V1,hV1⟩:∃ V1,V1=w4.alloc (.cells #[.slice (some ⟨gE,0,none⟩) ln ln,.bool s2,.int .u64 x2,.int .u64 y2,.pointer p2] 68):=⟨_,rfl⟩
  obtain ⟨V2,hV2⟩:∃ V2,V2=V1.alloc (.cells (madeCells #[.bool false,.int .u64 0,.int .u64 0,.pointer none] (ln*4)) 41):=⟨_,rfl⟩
  have b1:But [] w4 V1:=by rw [hV1];exact (But.refl _ _).alloc _
  have b2:But [] V1 V2:=by rw [hV2];exact (But.refl _ _).alloc _
  have e1:V1.heap.size=w4.heap.size+1:=by rw [hV1];simp
  have z11:NewB w4.heap.size V2 w4.heap.size [.slice (some ⟨gE,0,none⟩) ln ln,.bool s2,.int .u64 x2,.int .u64 y2,.pointer p2]:=by
   have h:NewB w4.heap.size V1 w4.heap.size [.slice (some ⟨gE,0,none⟩) ln ln,.bool s2,.int .u64 x2,.int .u64 y2,.pointer p2]:=by rw [hV1];exact NewB.made _ w4 [.slice (some ⟨gE,0,none⟩) ln ln,.bool s2,.int .u64 x2,.int .u64 y2,.pointer p2] _ (Nat.le_refl _)
   exact h.but b2
  have zr:NewR w4.heap.size V2 (w4.heap.size+1) ln (fun k=>if k<0 then ledR Y ln (rwR fs) o (t-o) k/(rwU fs*prV V o (t-o)) else 0):=by
   have h:NewR w4.heap.size V2 V1.heap.size ln (fun _=>0):=by rw [hV2];exact ⟨RowOf.made V1 ln,by omega,by simp⟩
   rw [e1] at h
   exact ⟨h.row.congr (fun k _=>by rw [if_neg (by omega)]),h.new,h.lt⟩
  have bb:=b1.trans' b2
  have II:=hide (And.intro zr (And.intro z11 bb))
  have HR4:=hide hr4
  have HF4:=hide hf4
  have HW:=hide (hV2.trans (by rw [hV1]))
  have hC2:=bb.cell_some hC0 (by simp)
  rw [hV2,hV1] at hC2
  clear hb4 B3 LL hr4 hf4 z11 zr bb b1 b2 e1 hV1 hV2 V1
  go_wp2
  rw [← unhide HW]
  obtain ⟨g11,hg11⟩:∃ g11,g11=w4.heap.size:=⟨_,rfl⟩
  obtain ⟨gc,hgc⟩:∃ gc,gc=w4.heap.size+1:=⟨_,rfl⟩
  rw [← hgc,← hg11] at II
  rw [← hgc,← hg11]
  have og:g11<gc:=by omega
  have Q11:Hid (w4.heap.size≤g11):=by show _≤_;omega
  clear hg11 hgc HW hC2 hC0 hgl hmk
  go_loopw [44] (fun iv wr=>∃ k:Nat,k≤ln∧iv=.int .i64 (k:Int)∧Hid (NewR g11 wr gc ln (fun j=>if j<k then ledR Y ln (rwR fs) o (t-o) j/(rwU fs*prV V o (t-o)) else 0)∧NewB g11 wr g11 [.slice (some ⟨gE,0,none⟩) ln ln,.bool s2,.int .u64 x2,.int .u64 y2,.pointer p2]∧But [] w4 wr)) (fun iv _=>ln-(intOf iv).toNat)
  case atStart=>exact ⟨0,Nat.zero_le _,rfl,unhide II⟩
  case round =>
   obtain ⟨k,hk,rfl,HI⟩:=hrel
   rename World=>wr
   clear II
   by_cases hlt:k<ln
   ·obtain ⟨zr,z11,bw⟩:=unhide HI
    obtain ⟨sa,xa,ya,pa,ca,fa⟩:=((unhide HR4).but bw) k hlt
    obtain ⟨s0,x0,y0,p0,c0,-⟩:=zr.row.told k hlt
    have DI:=hide (fun W (hb:But [] wr W)=>in_prod (chainDiv_any _ _ _ _ W (fa.but hb) (((unhide HF4).but bw).but hb) ((unhide LR k hlt).mono (by omega)) ((unhide LU).mono (by omega)) (unhide NU)))
    go_wp2
    refine spread_region11 11 _ _ wr g11 gc gE ln k _ sa xa ya pa s2 x2 y2 p2 s0 x0 y0 p0 (by simp) (by simp [Act.eval]) (by simp [Act.eval]) (by simp [Act.eval]) hlt hn (z11.cells 0 _ rfl) ca ⟨z11.cells 1 _ rfl,z11.cells 2 _ rfl,z11.cells 3 _ rfl,z11.cells 4 _ rfl⟩ c0 zr.row.loose (unhide DI) ?_
    intro z w5 hP
    simp only [putted,List.foldl_cons,List.foldl_nil,Act.put,List.setIfInBounds_toArray,List.set_cons_zero,List.set_cons_succ]
    have hb5:=but_setCells w5 gc [.bool z.1,.int .u64 z.2.1,.int .u64 z.2.2.1,.pointer z.2.2.2] (k*4)
    have zr5:=(zr.but hP.mem).put hlt z.1 z.2.1 z.2.2.1 z.2.2.2 _ (hP.f9 rfl)
    have JJ:Hid (NewR g11 (w5.setCells gc (k*4) [.bool z.1,.int .u64 z.2.1,.int .u64 z.2.2.1,.pointer z.2.2.2]) gc ln (fun j=>if j<k+1 then ledR Y ln (rwR fs) o (t-o) j/(rwU fs*prV V o (t-o)) else 0)∧NewB g11 (w5.setCells gc (k*4) [.bool z.1,.int .u64 z.2.1,.int .u64 z.2.2.1,.pointer z.2.2.2]) g11 [.slice (some ⟨gE,0,none⟩) ln ln,.bool s2,.int .u64 x2,.int .u64 y2,.pointer p2]∧But [] w4 (w5.setCells gc (k*4) [.bool z.1,.int .u64 z.2.1,.int .u64 z.2.2.1,.pointer z.2.2.2])):=by
     refine ⟨⟨zr5.row.congr (fun j _=>?_),zr5.new,zr5.lt⟩,(z11.but hP.mem).beside hb5 (by simp;omega),(bw.trans' hP.mem).trans hb5 (fun x hx=>by simp at hx;subst hx;exact .inr (by have:=unhide Q11;omega))⟩
     unfold setF
     by_cases e:j=k
     ·subst e
      rw [if_pos rfl,if_pos (by omega)]
     ·rw [if_neg e]
      dsimp only
      by_cases h2:j<k
      ·rw [if_pos h2,if_pos (by omega)]
      ·rw [if_neg h2,if_neg (by omega)]
    clear zr5 hb5 hP zr z11 bw ca fa c0 DI HI
    generalize w5.setCells gc (k*4) [.bool z.1,.int .u64 z.2.1,.int .u64 z.2.2.1,.pointer z.2.2.2]=W5 at *
    go_wp2
    exact ⟨⟨k+1,by omega,by go_num,unhide JJ⟩,by simp [intOf];omega⟩
   ·obtain rfl:k=ln:=by omega
    obtain ⟨zr,z11,bw⟩:=unhide HI
    have RF:Hid (RowR wr gc k (fun j=>ledR Y k (rwR fs) o (t-o) j/(rwU fs*prV V o (t-o)))):=fun j hj=>by
     have:=zr.row.told j hj
     rw [if_pos hj] at this
     exact this
    have BF:=hide ((unhide B4).trans' bw)
    clear zr z11 bw HI
    go_wp2
    exact bodyPost_ret (v:=.tuple #[.slice (some ⟨gc,0,none⟩) k k,.nilIface]) (by simp [results,Tryz.results9,go_sem]) rfl (unhide POK (unhide HOK) gc _ _ rfl (unhide BF) (unhide RF))
 ·have HNO:=hide hno
  clear hno LD RO LE
  go_wp2
  exact bodyPost_ret (v:=.tuple #[.slice none 0 0,.iface 26 (.int .i64 cc)]) (by simp [results,Tryz.results9,go_sem]) rfl (unhide PNO (unhide HNO) cc _ _ hcc1 hcc2 rfl (unhide B2))
end Go.Proofs.YthlnhheblhapgaaGreatDoor

namespace Go.Proofs.YthlnhheblhapgaaGreatDoor
open Go.RowKit
set_option maxHeartbeats 32000000
set_option maxRecDepth 100000
theorem isN_unit (st k:Nat):isN (unitR st k) (18446744073709551616^1):=by
 unfold unitR
 by_cases h:k=st
 ·rw [if_pos h];exact isN_one _ (by omega)
 ·rw [if_neg h];exact isN_zero _
theorem isN_one1:isN 1 (18446744073709551616^1):=isN_one _ (by omega)
theorem isN_miss {Y:Nat→Nat→Nat→Rat} {R:Nat→Rat} {n c v o kk:Nat} (hn:n≤8) (hR:∀ k,k<n→isN (R k) (18446744073709551616^c)):∀ j,(∀ t,t<j→∀ i k,i<n→k<n→isN (Y (o+t) i k) (18446744073709551616^v))→∀ k,k<n→isN (missR Y n R kk o j k) (18446744073709551616^(c+(v+1)*j))
 | 0,_,k,hk=>by
  show isN (if k=kk then 0 else R k) _
  by_cases e:k=kk
  ·rw [if_pos e];exact isN_zero _
  ·rw [if_neg e];exact hR k hk
 | j+1,h,k,hk=>by
  show isN (if k=kk then 0 else mvR (missR Y n R kk o j) (Y (o+j)) n k) _
  by_cases e:k=kk
  ·rw [if_pos e];exact isN_zero _
  ·rw [if_neg e]
   have ih:=isN_miss (kk:=kk) hn hR j (fun t ht=>h t (by omega))
   have:=isN_mv hn ih (h j (by omega)) k hk n (Nat.le_refl _)
   rw [Nat.mul_succ,show c+((v+1)*j+(v+1))=c+(v+1)*j+v+1 from by omega]
   exact this
theorem prob_any (g ny n:Nat) (Y:Nat→Nat→Nat→Rat) (V:Nat→Rat) (si k o t:Nat) (w:World) (hC:ChainAt w g ny n Y V) (hN:ChainN ny n Y V) (pV:∀ j,j<ny→0<V j) (hsi:si<n) (hk:k<n) (hot:o≤t) (htn:t≤ny) :
  Calls Tryz.prog 12 #[.pointer (some ⟨g,0,none⟩),.int .i64 (si:Int),.int .i64 (k:Int),.int .i64 (o:Int),.int .i64 (t:Int)] w fun e w'=>∃ s x y p,e=.returned (.tuple #[.agg #[.bool s,.int .u64 x,.int .u64 y,.pointer p],.nilIface])∧FracAt w' (.agg #[.bool s,.int .u64 x,.int .u64 y,.pointer p]) (ledR Y n (unitR si) o (t-o) k/prV V o (t-o))∧But [] w w':=by
 have n8:=hN.n8
 have y120:=hN.y120
 have hn:n<1000000:=by omega
 have LA:=hide (fun W (hb:But [] w W)=>chLasts_any g ny n o t Y V W (hC.but hb) hot htn)
 have H1:=hide (fun W (hb:But [] w W)=>chHas_any g ny n si Y V W (hC.but hb) hsi)
 have H2:=hide (fun W (hb:But [] w W)=>chHas_any g ny n k Y V W (hC.but hb) hk)
 have AL:=hide (fun W (hb:But [] w W)=>alone_any g ny n si Y V W (hC.but hb) hn hsi)
 have LE:=hide (fun W (hb:But [] w W) (gR:Nat) (s1:Bool) (x1 y1:Int) (p1:Option Addr) (h1:RowR W gR n (unitR si)) (h2:FracAt W (.agg #[.bool s1,.int .u64 x1,.int .u64 y1,.pointer p1]) 1)=>led_any g ny n Y V gR s1 x1 y1 p1 (unitR si) 1 o t 1 W (hC.but hb) hN h1 h2 (fun k _=>isN_unit si k) isN_one1 (by omega) hot htn)
 have LR:Hid (Len (ledR Y n (unitR si) o (t-o) k) 160000):=(isN_len (isN_led n8 (fun k _=>isN_unit si k) (t-o) (fun i hi=>hN.nY (o+i) (by omega)) k hk)).mono (by omega)
 have LU:Hid (Len (1*prV V o (t-o)) 160000):=(isN_len (isN_ledU isN_one1 hN.nV (by omega))).mono (by omega)
 have NU:Hid ((1*prV V o (t-o)).num≠0):=by
  show _≠_
  rw [Rat.one_mul]
  exact num_ne (prV_pos _ (fun j hj=>pV (o+j) (by omega)))
 have x10:=BoxAt.new w false 0 0 none 0 41 (zero_at _)
 have bA:But [] w (w.alloc (.cells #[.bool false,.int .u64 0,.int .u64 0,.pointer none] 41)):=(But.refl _ _).alloc _
 have X10:=hide x10
 have BA:=hide bA
 clear hC hN pV x10 bA
 go_enter Tryz.func12,Tryz.ntmps12
 go_wp2_with fail
 generalize w.alloc (.cells #[.bool false,.int .u64 0,.int .u64 0,.pointer none] 41)=V0 at *
 obtain ⟨g10,hg10⟩:∃ g10,g10=w.heap.size:=⟨_,rfl⟩
 rw [← hg10] at X10 ⊢
 have Q10:Hid (w.heap.size≤g10):=by show _≤_;omega
 clear hg10
 refine (unhide H1 _ (unhide BA)).mono ?_
 rintro e w1 ⟨rfl,hb1⟩
 have B1:=hide ((unhide BA).trans' hb1)
 have X1:=hide ((unhide X10).but hb1)
 clear hb1 BA X10 H1
 go_wp2_with fail
 refine (unhide H2 _ (unhide B1)).mono ?_
 rintro e w2 ⟨rfl,hb2⟩
 have B2:=hide ((unhide B1).trans' hb2)
 have X2:=hide ((unhide X1).but hb2)
 clear hb2 B1 X1 H2
 go_wp2_with fail
 refine (unhide LA _ (unhide B2)).mono ?_
 rintro e w3 ⟨rfl,hb3⟩
 have B3:=hide ((unhide B2).trans' hb3)
 have X3:=hide ((unhide X2).but hb3)
 clear hb3 B2 X2 LA
 go_wp2_with fail
 refine (unhide AL _ (unhide B3)).mono ?_
 rintro e w4 ⟨u,rfl,⟨gR,s1,x1,y1,p1,rfl,hrn,hfn⟩,hb4⟩
 have B4:=hide ((unhide B3).trans' hb4)
 have X4:=hide ((unhide X3).but hb4)
 have LL:=hide (unhide LE w4 (unhide B4) gR s1 x1 y1 p1 hrn.row.rowR hfn)
 clear hb4 B3 X3 AL LE hrn hfn
 go_wp2_with fail
 refine (unhide LL).mono ?_
 rintro e w5 ⟨u,rfl,⟨gE,s2,x2,y2,p2,rfl,hr5,hf5⟩,hb5⟩
 have B5:=hide ((unhide B4).trans' hb5)
 have X5:=hide ((unhide X4).but hb5)
 obtain ⟨V1,hV1⟩:∃ V1,V1=w5.alloc (.cells #[.slice (some ⟨gE,0,none⟩) n n,.bool s2,.int .u64 x2,.int .u64 y2,.pointer p2] 68):=⟨_,rfl⟩
 have b1:But [] w5 V1:=by rw [hV1];exact (But.refl _ _).alloc _
 have z12:NewB w5.heap.size V1 w5.heap.size [.slice (some ⟨gE,0,none⟩) n n,.bool s2,.int .u64 x2,.int .u64 y2,.pointer p2]:=by rw [hV1];exact NewB.made _ w5 [.slice (some ⟨gE,0,none⟩) n n,.bool s2,.int .u64 x2,.int .u64 y2,.pointer p2] _ (Nat.le_refl _)
 have r6:=hr5.but b1
 have f6:=hf5.but b1
 have x6:=(unhide X5).but b1
 have B6:=hide ((unhide B5).trans' b1)
 have HW:=hide hV1
 clear hb5 B4 X4 LL hr5 hf5 b1 hV1 B5 X5
 go_wp2_with fail
 rw [← unhide HW]
 obtain ⟨⟨s0,x0,y0,p0,c0,-⟩,z0⟩:=id x6
 obtain ⟨sa,xa,ya,pa,ca,fa⟩:=r6 k hk
 refine prob_region4 4 _ _ V1 w5.heap.size g10 gE n k _ sa xa ya pa s2 x2 y2 p2 s0 x0 y0 p0 (by simp) (by simp [Act.eval]) (by simp [Act.eval]) (by simp [Act.eval]) hk hn (z12.cells 0 _ rfl) ca ⟨z12.cells 1 _ rfl,z12.cells 2 _ rfl,z12.cells 3 _ rfl,z12.cells 4 _ rfl⟩ c0 z0 (fun W hb=>in_prod (chainDiv_any _ _ _ _ W (fa.but hb) (f6.but hb) ((unhide LR).mono (by omega)) ((unhide LU).mono (by omega)) (unhide NU))) ?_
 intro z w7 hP
 simp only [putted,List.foldl_cons,List.foldl_nil,Act.put,List.setIfInBounds_toArray,List.set_cons_zero,List.set_cons_succ]
 have x7:=x6.but hP.mem
 have hb7:=but_setCells w7 g10 [.bool z.1,.int .u64 z.2.1,.int .u64 z.2.2.1,.pointer z.2.2.2] 0
 have ff:=(hP.f7 rfl).over (Exists.choose_spec x7.bool) hb7
 rw [Rat.one_mul] at ff
 have BF:But [] w (w7.setCells g10 0 [.bool z.1,.int .u64 z.2.1,.int .u64 z.2.2.1,.pointer z.2.2.2]):=((unhide B6).trans' hP.mem).trans hb7 (fun x hx=>by simp at hx;subst hx;exact .inr (unhide Q10))
 obtain ⟨⟨s7,x7',y7,p7,⟨k0,k1,k2,k3⟩,-⟩,-⟩:=x7
 have hin:∀ j (hj:j<4),(w7.setCells g10 0 [.bool z.1,.int .u64 z.2.1,.int .u64 z.2.2.1,.pointer z.2.2.2]).cell? ⟨g10,0+j,none⟩=some ([Value.bool z.1,.int .u64 z.2.1,.int .u64 z.2.2.1,.pointer z.2.2.2][j]'hj):=fun j hj=>World.cell?_setCells_in g10 [.bool z.1,.int .u64 z.2.1,.int .u64 z.2.2.1,.pointer z.2.2.2] 0 w7 (fun i hi=>by
  have:i=0∨i=1∨i=2∨i=3:=by simp at hi;omega
  rcases this with rfl | rfl | rfl | rfl
  ·rw [k0];rfl
  ·rw [k1];rfl
  ·rw [k2];rfl
  ·rw [k3];rfl) j hj
 have m0:=hin 0 (by omega)
 have m1:=hin 1 (by omega)
 have m2:=hin 2 (by omega)
 have m3:=hin 3 (by omega)
 simp only [Nat.zero_add,List.getElem_cons_zero,List.getElem_cons_succ] at m0 m1 m2 m3
 have FF:=hide (And.intro ff BF)
 clear hP hb7 ff BF hin k0 k1 k2 k3 x6 r6 f6 z12 c0 z0 ca fa HW B6
 generalize w7.setCells g10 0 [.bool z.1,.int .u64 z.2.1,.int .u64 z.2.2.1,.pointer z.2.2.2]=F at *
 go_wp2
 exact bodyPost_ret (v:=.tuple #[.agg #[.bool z.1,.int .u64 z.2.1,.int .u64 z.2.2.1,.pointer z.2.2.2],.nilIface]) (by simp [results,Tryz.results12,go_sem,m0,m1,m2,m3]) rfl ⟨_,_,_,_,rfl,(unhide FF).1,(unhide FF).2⟩
end Go.Proofs.YthlnhheblhapgaaGreatDoor
