/- Facts. -/
import Derived.Test.YteipfplbcbaheaaGreatDoorIHL
namespace Go.Proofs.YteipfplbcbaheaaGreatDoor
open Go.RowKit
set_option maxHeartbeats 8000000
set_option maxRecDepth 100000
theorem fracDiv_any (vf vg:Value) (f g:Rat) (w:World) (hf:FracAt w vf f) (hg:FracAt w vg g) (lf:Len f 1000000) (lg:Len g 1000000) (h0:g.num≠0) :
  Calls Tryz.prog 10 #[vf,vg] w fun e w'=>∃ v,e=.returned (.tuple #[v,.nilIface])∧FracAt w' v (f/g)∧But [] w w':=by
 have lg':Len g⁻¹ 1000000:=by
  obtain ⟨i1,i2,-⟩:=inv_facts g h0
  unfold Len
  rw [i1,i2]
  exact ⟨lg.2,lg.1⟩
 have SG:=hide (fun W (h:FracAt W vg g)=>fracSign_any vg g W h)
 have hsn:(g.num.sign==0)=false:=beq_eq_false_iff_ne.2 (fun e=>h0 (Int.sign_eq_zero_iff_zero.1 e))
 generalize g.num.sign=sg at SG hsn
 have NG:=hide (fun W (h:FracAt W vg g)=>fracTurned_any vg g W h h0)
 have AD:Hid (∀ (W:World) (v2:Value),FracAt W vf f→FracAt W v2 g⁻¹→Calls Tryz.prog 18 #[vf,v2] W fun e w'=>∃ v,e=.returned v∧FracAt w' v (f/g)∧But [] W w'):=fun W v2 h1 h2=>by
  rw [Rat.div_def]
  exact fracMul_any vf v2 f g⁻¹ W h1 h2 lf lg'
 have HFA:=hide hf
 have HGA:=hide hg
 obtain ⟨x1,y1,p1,rfl,-⟩:=hf.agg
 obtain ⟨x2,y2,p2,rfl,-⟩:=hg.agg
 clear hf hg lf lg lg' h0
 generalize hsf:decide (f.num<0)=s1 at *
 generalize hsg:decide (g.num<0)=s2 at *
 clear hsf hsg
 obtain ⟨W,hW⟩:∃ W,W=(((w.alloc (.cells #[.bool s1,.int .u64 x1,.int .u64 y1,.pointer p1] 27)).alloc (.cells #[.bool s2,.int .u64 x2,.int .u64 y2,.pointer p2] 27)).alloc (.cells #[.bool false,.int .u64 0,.int .u64 0,.pointer none] 27)):=⟨_,rfl⟩
 obtain ⟨tA,tB,tC,fz,hB⟩:=three_new w W _ _ _ _ hW
 have a0:=tA 0
 have a1:=tA 1
 have a2:=tA 2
 have a3:=tA 3
 have b0:=tB 0
 have b1:=tB 1
 have b2:=tB 2
 have b3:=tB 3
 have r0:=tC 0
 have r1:=tC 1
 have r2:=tC 2
 have r3:=tC 3
 simp only [List.getElem?_toArray,List.getElem?_cons_zero,List.getElem?_cons_succ] at a0 a1 a2 a3 b0 b1 b2 b3 r0 r1 r2 r3
 have BL:Hid (Blank W (w.heap.size+2)):=⟨r0,r1,r2,r3,fun j hj=>by rw [tC j];simp;omega⟩
 clear tA tB tC
 have HW:=hide hW
 have HB:=hide hB
 clear hW hB
 go_enter Tryz.func10,Tryz.ntmps10
 go_wp2_with fail
 rw [← unhide HW]
 obtain ⟨ga,hga⟩:∃ ga,ga=w.heap.size:=⟨_,rfl⟩
 obtain ⟨gb,hgb⟩:∃ gb,gb=w.heap.size+1:=⟨_,rfl⟩
 obtain ⟨gr,hgr⟩:∃ gr,gr=w.heap.size+2:=⟨_,rfl⟩
 rw [← hga] at a0 a1 a2 a3
 rw [← hgb] at b0 b1 b2 b3
 rw [← hgr] at r0 r1 r2 r3 fz BL
 rw [show w.heap.size+1+1=w.heap.size+2 from rfl,← hgr,← hgb,← hga]
 have HGR:Hid (w.heap.size≤gr):=by show _≤_;omega
 have nga:ga≠gr:=by omega
 have ngb:gb≠gr:=by omega
 clear hga hgb hgr HW
 refine (unhide SG _ ((unhide HGA).but (unhide HB))).mono ?_
 rintro e W0 ⟨rfl,hc0⟩
 have gl0:gr<W.heap.size:=lt_of_cell r0
 replace fz:∀ j,W0.frozen? ⟨gr,j,none⟩=false:=fun j=>(hc0.frozen (p:=⟨gr,j,none⟩) gl0 (by simp)).trans (fz j)
 clear gl0
 replace a0:=hc0.cell_some a0 (by simp)
 replace a1:=hc0.cell_some a1 (by simp)
 replace a2:=hc0.cell_some a2 (by simp)
 replace a3:=hc0.cell_some a3 (by simp)
 replace b0:=hc0.cell_some b0 (by simp)
 replace b1:=hc0.cell_some b1 (by simp)
 replace b2:=hc0.cell_some b2 (by simp)
 replace b3:=hc0.cell_some b3 (by simp)
 replace r0:=hc0.cell_some r0 (by simp)
 replace r1:=hc0.cell_some r1 (by simp)
 replace r2:=hc0.cell_some r2 (by simp)
 replace r3:=hc0.cell_some r3 (by simp)
 replace BL:Hid (Blank W0 gr):=(unhide BL).but hc0
 replace HB:Hid (But [] w W0):=(unhide HB).trans' hc0
 clear hc0
 go_wp2_with fail
 have grl:gr<W0.heap.size:=lt_of_cell r0
 go_region_held (fun w'=>w'.cell? ⟨ga,0,none⟩=some (.bool s1)∧w'.cell? ⟨ga,1,none⟩=some (.int .u64 x1)∧w'.cell? ⟨ga,2,none⟩=some (.int .u64 y1)∧w'.cell? ⟨ga,3,none⟩=some (.pointer p1)∧w'.cell? ⟨gb,0,none⟩=some (.bool s2)∧w'.cell? ⟨gb,1,none⟩=some (.int .u64 x2)∧w'.cell? ⟨gb,2,none⟩=some (.int .u64 y2)∧w'.cell? ⟨gb,3,none⟩=some (.pointer p2)) (first | go_keep | exact ⟨set4_cell _ _ _ _ _ _ _ _ _ nga m0,set4_cell _ _ _ _ _ _ _ _ _ nga m1,set4_cell _ _ _ _ _ _ _ _ _ nga m2,set4_cell _ _ _ _ _ _ _ _ _ nga m3,set4_cell _ _ _ _ _ _ _ _ _ ngb n0,set4_cell _ _ _ _ _ _ _ _ _ ngb n1,set4_cell _ _ _ _ _ _ _ _ _ ngb n2,set4_cell _ _ _ _ _ _ _ _ _ ngb n3⟩) (first
  | (go_at_call 58;refine (unhide NG _ (by first | exact (unhide HGA).but (unhide HB) | exact (unhide HGA).but ((unhide HB).trans' (But.refl _ _).drew))).mono ?_;rintro e w1 ⟨v1,rfl,hn1,hc1⟩;have B1:But [] W0 w1:=(by first | exact hc1 | exact (But.refl _ _).drew.trans' hc1);have HN1:=hide hn1;clear hn1 hc1;have k0:=B1.cell_some a0 (by simp);have k1:=B1.cell_some a1 (by simp);have k2:=B1.cell_some a2 (by simp);have k3:=B1.cell_some a3 (by simp);have l0:=B1.cell_some b0 (by simp);have l1:=B1.cell_some b1 (by simp);have l2:=B1.cell_some b2 (by simp);have l3:=B1.cell_some b3 (by simp))
  | (go_at_call 18;refine (unhide AD _ _ (by first | exact (unhide HFA).but ((unhide HB).trans' B1) | exact (unhide HFA).but (((unhide HB).trans' B1).trans' (But.refl _ _).drew)) (by first | exact unhide HN1 | exact (unhide HN1).but (But.refl _ _).drew)).mono ?_;rintro e w2 ⟨v2,rfl,hn2,hc2⟩;have B2:But [] W0 w2:=(by first | exact B1.trans' hc2 | exact B1.trans' ((But.refl _ _).drew.trans' hc2));have HN2:=hide hn2;obtain ⟨x8,y8,p8,rfl,-⟩:=hn2.agg;clear hc2;clear hn2;generalize decide ((f/g).num<0)=r8 at *;have m0:=B2.cell_some a0 (by simp);have m1:=B2.cell_some a1 (by simp);have m2:=B2.cell_some a2 (by simp);have m3:=B2.cell_some a3 (by simp);have n0:=B2.cell_some b0 (by simp);have n1:=B2.cell_some b1 (by simp);have n2:=B2.cell_some b2 (by simp);have n3:=B2.cell_some b3 (by simp);have u0:=B2.cell_some r0 (by simp);have u1:=B2.cell_some r1 (by simp);have u2:=B2.cell_some r2 (by simp);have u3:=B2.cell_some r3 (by simp);have uf:∀ j,w2.frozen? ⟨gr,j,none⟩=false:=fun j=>(B2.frozen (p:=⟨gr,j,none⟩) grl (by simp)).trans (fz j)))
 go_wp2
 have hBf:=(((((unhide HB).trans' B2).setCell (p:=⟨gr,0,none⟩) (.inr (unhide HGR)) (.bool r8)).setCell (p:=⟨gr,1,none⟩) (.inr (unhide HGR)) (.int .u64 x8)).setCell (p:=⟨gr,2,none⟩) (.inr (unhide HGR)) (.int .u64 y8)).setCell (p:=⟨gr,3,none⟩) (.inr (unhide HGR)) (.pointer p8)
 have hBg:But [gr] w2 ((((w2.setCell ⟨gr,0,none⟩ (.bool r8)).setCell ⟨gr,1,none⟩ (.int .u64 x8)).setCell ⟨gr,2,none⟩ (.int .u64 y8)).setCell ⟨gr,3,none⟩ (.pointer p8)):=(((((But.refl [gr] w2).setCell (.inl (by simp)) _).setCell (.inl (by simp)) _).setCell (.inl (by simp)) _).setCell (.inl (by simp)) _)
 exact bodyPost_ret (v:=.tuple #[.agg #[.bool r8,.int .u64 x8,.int .u64 y8,.pointer p8],.nilIface]) (by simp [results,Tryz.results10,go_sem,u0,u1,u2,u3]) rfl ⟨_,rfl,((unhide BL).but B2).frac (unhide HN2) hBg,hBf⟩
theorem fracDiv_zero (vf vg:Value) (f g:Rat) (w:World) (hf:FracAt w vf f) (hg:FracAt w vg g) (h0:g.num=0) :
  Calls Tryz.prog 10 #[vf,vg] w fun e w'=>e=.returned (.tuple #[.agg #[.bool false,.int .u64 0,.int .u64 0,.pointer none],.iface 35 (.int .i64 11)])∧But [] w w':=by
 have SG:=hide (fun W (h:FracAt W vg g)=>fracSign_any vg g W h)
 rw [h0,Int.sign_zero] at SG
 have HGA:=hide hg
 obtain ⟨x1,y1,p1,rfl,-⟩:=hf.agg
 obtain ⟨x2,y2,p2,rfl,-⟩:=hg.agg
 clear hf hg h0
 generalize decide (f.num<0)=s1 at *
 generalize decide (g.num<0)=s2 at *
 obtain ⟨W,hW⟩:∃ W,W=(((w.alloc (.cells #[.bool s1,.int .u64 x1,.int .u64 y1,.pointer p1] 27)).alloc (.cells #[.bool s2,.int .u64 x2,.int .u64 y2,.pointer p2] 27)).alloc (.cells #[.bool false,.int .u64 0,.int .u64 0,.pointer none] 27)):=⟨_,rfl⟩
 obtain ⟨-,-,tC,fz,hB⟩:=three_new w W _ _ _ _ hW
 have r0:=tC 0
 have r1:=tC 1
 have r2:=tC 2
 have r3:=tC 3
 simp only [List.getElem?_toArray,List.getElem?_cons_zero,List.getElem?_cons_succ] at r0 r1 r2 r3
 have HW:=hide hW
 have HB:=hide hB
 clear hW hB tC
 go_enter Tryz.func10,Tryz.ntmps10
 go_wp2_with fail
 rw [← unhide HW]
 obtain ⟨gr,hgr⟩:∃ gr,gr=w.heap.size+2:=⟨_,rfl⟩
 rw [← hgr] at r0 r1 r2 r3 fz
 have HGR:Hid (w.heap.size≤gr):=by show _≤_;omega
 rw [show w.heap.size+1+1=w.heap.size+2 from rfl,← hgr]
 clear hgr HW
 refine (unhide SG _ ((unhide HGA).but (unhide HB))).mono ?_
 rintro e W0 ⟨rfl,hc0⟩
 have gl0:gr<W.heap.size:=lt_of_cell r0
 replace fz:∀ j,W0.frozen? ⟨gr,j,none⟩=false:=fun j=>(hc0.frozen (p:=⟨gr,j,none⟩) gl0 (by simp)).trans (fz j)
 replace r0:=hc0.cell_some r0 (by simp)
 replace r1:=hc0.cell_some r1 (by simp)
 replace r2:=hc0.cell_some r2 (by simp)
 replace r3:=hc0.cell_some r3 (by simp)
 replace HB:Hid (But [] w W0):=(unhide HB).trans' hc0
 clear hc0 gl0
 go_wp2
 have hBf:=((((unhide HB).setCell (p:=⟨gr,0,none⟩) (.inr (unhide HGR)) (.bool false)).setCell (p:=⟨gr,1,none⟩) (.inr (unhide HGR)) (.int .u64 0)).setCell (p:=⟨gr,2,none⟩) (.inr (unhide HGR)) (.int .u64 0)).setCell (p:=⟨gr,3,none⟩) (.inr (unhide HGR)) (.pointer none)
 exact bodyPost_ret (v:=.tuple #[.agg #[.bool false,.int .u64 0,.int .u64 0,.pointer none],.iface 35 (.int .i64 11)]) (by simp [results,Tryz.results10,go_sem,r0,r1,r2,r3]) rfl ⟨rfl,hBf⟩
end Go.Proofs.YteipfplbcbaheaaGreatDoor

namespace Go.Proofs.YteipfplbcbaheaaGreatDoor
open Go.RowKit
set_option maxHeartbeats 16000000
set_option maxRecDepth 100000
theorem near_len {g:Rat} {n:Nat} (h:Len g n) (hn:0<n):Len (nearR g) (n+3):=by
 have h1:=fl_len h hn
 have h2:=int_len 1 (by omega) (by omega)
 unfold nearR
 split
 ·exact len_add h1 h2 (n+3) (by omega)
 ·exact h1.mono (by omega)
theorem round_any (vf vz:Value) (f z:Rat) (w:World) (hf:FracAt w vf f) (hz:FracAt w vz z) (lf:Len f 1) (lz:Len z 1) (hz0:0<z.num) :
  Calls Tryz.prog 32 #[vf,vz] w fun e w'=>∃ v',e=.returned (.tuple #[v',.nilIface])∧FracAt w' v' (nearR (f*z⁻¹)*z)∧But [] w w':=by
 have hzn:z.num≠0:=by omega
 have lzi:=len_inv lz hzn
 have lq:=len_mul lf lzi 2 (by omega)
 have ln:=near_len lq (by omega)
 have SG:Hid (∀ W,But [] w W→Calls Tryz.prog 25 #[vz] W fun e w'=>e=.returned (.int .i64 1)∧But [] W w'):=fun W h=>by
  have:=fracSign_any vz z W (hz.but h)
  rw [Int.sign_eq_one_of_pos hz0] at this
  exact this
 have TU:=hide (fun W (h:But [] w W)=>fracTurned_any vz z W (hz.but h) hzn)
 have M1:=hide (fun W v (h:But [] w W) (hv:FracAt W v z⁻¹)=>fracMul_any vf v f z⁻¹ W (hf.but h) hv (lf.mono (by omega)) (lzi.mono (by omega)))
 have NR:=hide (fun W v (hv:FracAt W v (f*z⁻¹))=>nearest_any v (f*z⁻¹) W hv (lq.mono (by omega)))
 have M2:=hide (fun W v (h:But [] w W) (hv:FracAt W v (nearR (f*z⁻¹)))=>fracMul_any v vz _ z W hv (hz.but h) (ln.mono (by omega)) (lz.mono (by omega)))
 obtain ⟨d,hd⟩:∃ d,d=nearR (f*z⁻¹)*z:=⟨_,rfl⟩
 rw [← hd] at M2 ⊢
 obtain ⟨x1,y1,p1,rfl,-⟩:=hf.agg
 obtain ⟨x2,y2,p2,rfl,-⟩:=hz.agg
 generalize decide (f.num<0)=s1 at *
 generalize decide (z.num<0)=s2 at *
 clear hf hz lf lz hz0 hzn lzi lq ln hd
 obtain ⟨W,hW⟩:∃ W,W=(((w.alloc (.cells #[.bool s1,.int .u64 x1,.int .u64 y1,.pointer p1] 27)).alloc (.cells #[.bool s2,.int .u64 x2,.int .u64 y2,.pointer p2] 27)).alloc (.cells #[.bool false,.int .u64 0,.int .u64 0,.pointer none] 27)):=⟨_,rfl⟩
 obtain ⟨tA,tB,tC,fz,hB⟩:=three_new w W _ _ _ _ hW
 have a0:=tA 0
 have a1:=tA 1
 have a2:=tA 2
 have a3:=tA 3
 have b0:=tB 0
 have b1:=tB 1
 have b2:=tB 2
 have b3:=tB 3
 have r0:=tC 0
 have r1:=tC 1
 have r2:=tC 2
 have r3:=tC 3
 simp only [List.getElem?_toArray,List.getElem?_cons_zero,List.getElem?_cons_succ] at a0 a1 a2 a3 b0 b1 b2 b3 r0 r1 r2 r3
 clear tA tB tC
 have HW:=hide hW
 have HB:=hide hB
 clear hW hB
 go_enter Tryz.func32,Tryz.ntmps32
 go_wp2_with fail
 rw [← unhide HW]
 obtain ⟨ga,hga⟩:∃ ga,ga=w.heap.size:=⟨_,rfl⟩
 obtain ⟨gb,hgb⟩:∃ gb,gb=w.heap.size+1:=⟨_,rfl⟩
 obtain ⟨gr,hgr⟩:∃ gr,gr=w.heap.size+2:=⟨_,rfl⟩
 rw [← hga] at a0 a1 a2 a3
 rw [← hgb] at b0 b1 b2 b3
 rw [← hgr] at r0 r1 r2 r3 fz
 rw [show w.heap.size+1+1=w.heap.size+2 from rfl,← hgr,← hgb,← hga]
 have HGR:Hid (w.heap.size≤gr):=by show _≤_;omega
 have nga:ga≠gr:=by omega
 have ngb:gb≠gr:=by omega
 clear hga hgb hgr HW
 refine (unhide SG _ (unhide HB)).mono ?_
 rintro e W0 ⟨rfl,hc0⟩
 have gl0:gr<W.heap.size:=lt_of_cell r0
 replace fz:∀ j,W0.frozen? ⟨gr,j,none⟩=false:=fun j=>(hc0.frozen (p:=⟨gr,j,none⟩) gl0 (by simp)).trans (fz j)
 clear gl0
 replace a0:=hc0.cell_some a0 (by simp)
 replace a1:=hc0.cell_some a1 (by simp)
 replace a2:=hc0.cell_some a2 (by simp)
 replace a3:=hc0.cell_some a3 (by simp)
 replace b0:=hc0.cell_some b0 (by simp)
 replace b1:=hc0.cell_some b1 (by simp)
 replace b2:=hc0.cell_some b2 (by simp)
 replace b3:=hc0.cell_some b3 (by simp)
 replace r0:=hc0.cell_some r0 (by simp)
 replace r1:=hc0.cell_some r1 (by simp)
 replace r2:=hc0.cell_some r2 (by simp)
 replace r3:=hc0.cell_some r3 (by simp)
 replace HB:Hid (But [] w W0):=(unhide HB).trans' hc0
 clear hc0
 go_wp2_with fail
 have grl:gr<W0.heap.size:=lt_of_cell r0
 go_region_held (fun w'=>w'.cell? ⟨ga,0,none⟩=some (.bool s1)∧w'.cell? ⟨ga,1,none⟩=some (.int .u64 x1)∧w'.cell? ⟨ga,2,none⟩=some (.int .u64 y1)∧w'.cell? ⟨ga,3,none⟩=some (.pointer p1)∧w'.cell? ⟨gb,0,none⟩=some (.bool s2)∧w'.cell? ⟨gb,1,none⟩=some (.int .u64 x2)∧w'.cell? ⟨gb,2,none⟩=some (.int .u64 y2)∧w'.cell? ⟨gb,3,none⟩=some (.pointer p2)) (first | (go_keep;done) | exact ⟨set4_cell _ _ _ _ _ _ _ _ _ nga a0_4,set4_cell _ _ _ _ _ _ _ _ _ nga a1_4,set4_cell _ _ _ _ _ _ _ _ _ nga a2_4,set4_cell _ _ _ _ _ _ _ _ _ nga a3_4,set4_cell _ _ _ _ _ _ _ _ _ ngb b0_4,set4_cell _ _ _ _ _ _ _ _ _ ngb b1_4,set4_cell _ _ _ _ _ _ _ _ _ ngb b2_4,set4_cell _ _ _ _ _ _ _ _ _ ngb b3_4⟩) (first
  | (go_at_call 18;have hchk:=B3;clear hchk;refine (unhide M2 _ v3 (by first | exact (unhide HB).trans' B3 | exact ((unhide HB).trans' B3).drew) (by first | exact unhide HN3 | exact (unhide HN3).but (But.refl _ _).drew)).mono ?_;rintro e w4 ⟨v4,rfl,hn4,hc4⟩;have B4:But [] W0 w4:=(by first | exact B3.trans' hc4 | exact (B3.drew).trans' hc4);have HN4:=hide hn4;obtain ⟨x8,y8,p8,rfl,-⟩:=hn4.agg;clear hn4;clear HN3;generalize decide (d.num<0)=r8 at *;have u0:=B4.cell_some r0 (by simp);have u1:=B4.cell_some r1 (by simp);have u2:=B4.cell_some r2 (by simp);have u3:=B4.cell_some r3 (by simp);have uf:∀ j,w4.frozen? ⟨gr,j,none⟩=false:=fun j=>(B4.frozen (p:=⟨gr,j,none⟩) grl (by simp)).trans (fz j);clear hc4;have a0_4:=B4.cell_some a0 (by simp);have a1_4:=B4.cell_some a1 (by simp);have a2_4:=B4.cell_some a2 (by simp);have a3_4:=B4.cell_some a3 (by simp);have b0_4:=B4.cell_some b0 (by simp);have b1_4:=B4.cell_some b1 (by simp);have b2_4:=B4.cell_some b2 (by simp);have b3_4:=B4.cell_some b3 (by simp);clear a0_3 a1_3 a2_3 a3_3 b0_3 b1_3 b2_3 b3_3)
  | (go_at_call 90;have hchk:=B2;clear hchk;refine (unhide NR _ v2 (by first | exact unhide HN2 | exact (unhide HN2).but (But.refl _ _).drew)).mono ?_;rintro e w3 ⟨v3,rfl,hn3,hc3⟩;have B3:But [] W0 w3:=(by first | exact B2.trans' hc3 | exact (B2.drew).trans' hc3);have HN3:=hide hn3;clear hn3;clear HN2;clear hc3;have a0_3:=B3.cell_some a0 (by simp);have a1_3:=B3.cell_some a1 (by simp);have a2_3:=B3.cell_some a2 (by simp);have a3_3:=B3.cell_some a3 (by simp);have b0_3:=B3.cell_some b0 (by simp);have b1_3:=B3.cell_some b1 (by simp);have b2_3:=B3.cell_some b2 (by simp);have b3_3:=B3.cell_some b3 (by simp);clear a0_2 a1_2 a2_2 a3_2 b0_2 b1_2 b2_2 b3_2)
  | (go_at_call 18;have hchk:=B1;clear hchk;refine (unhide M1 _ v1 (by first | exact (unhide HB).trans' B1 | exact ((unhide HB).trans' B1).drew) (by first | exact unhide HN1 | exact (unhide HN1).but (But.refl _ _).drew)).mono ?_;rintro e w2 ⟨v2,rfl,hn2,hc2⟩;have B2:But [] W0 w2:=(by first | exact B1.trans' hc2 | exact (B1.drew).trans' hc2);have HN2:=hide hn2;clear hn2;clear HN1;clear hc2;have a0_2:=B2.cell_some a0 (by simp);have a1_2:=B2.cell_some a1 (by simp);have a2_2:=B2.cell_some a2 (by simp);have a3_2:=B2.cell_some a3 (by simp);have b0_2:=B2.cell_some b0 (by simp);have b1_2:=B2.cell_some b1 (by simp);have b2_2:=B2.cell_some b2 (by simp);have b3_2:=B2.cell_some b3 (by simp);clear a0_1 a1_1 a2_1 a3_1 b0_1 b1_1 b2_1 b3_1)
  | (go_at_call 58;refine (unhide TU _ (by first | exact unhide HB | exact (unhide HB).drew)).mono ?_;rintro e w1 ⟨v1,rfl,hn1,hc1⟩;have B1:But [] W0 w1:=(by first | exact hc1 | exact (But.refl _ _).drew.trans' hc1);have HN1:=hide hn1;clear hn1;clear hc1;have a0_1:=B1.cell_some a0 (by simp);have a1_1:=B1.cell_some a1 (by simp);have a2_1:=B1.cell_some a2 (by simp);have a3_1:=B1.cell_some a3 (by simp);have b0_1:=B1.cell_some b0 (by simp);have b1_1:=B1.cell_some b1 (by simp);have b2_1:=B1.cell_some b2 (by simp);have b3_1:=B1.cell_some b3 (by simp)))
 all_goals (
  have hB4:=(unhide HB).trans' B4
  go_wp2
  have hBg:=but_set4 w4 gr (.bool r8) (.int .u64 x8) (.int .u64 y8) (.pointer p8)
  exact bodyPost_ret (v:=.tuple #[.agg #[.bool r8,.int .u64 x8,.int .u64 y8,.pointer p8],.nilIface]) (by simp [results,Tryz.results32,go_sem,u0,u1,u2,u3]) rfl ⟨_,rfl,(unhide HN4).over u0 hBg,hB4.trans hBg (fun x hx=>by simp at hx;subst hx;exact .inr (unhide HGR))⟩)
end Go.Proofs.YteipfplbcbaheaaGreatDoor

namespace Go.Proofs.YteipfplbcbaheaaGreatDoor
open Go.RowKit
set_option maxHeartbeats 4000000
set_option maxRecDepth 100000
theorem fracInt_any (f:Rat) (v:Value) (w:World) (hf:FracAt w v f) (hp:f.num.natAbs < 18446744073709551616) (hq:f.den < 18446744073709551616) (z:Int) (ok:Bool) (hok:Hid (ok=(decide (f.den=1) && decide (-9223372036854775808≤f.num) && decide (f.num<9223372036854775808)))) (hz:Hid (z=if ok then f.num else 0)) :
  Calls Tryz.prog 37 #[v] w fun e w'=>e=.returned (.tuple #[.int .i64 z,.bool ok])∧But [] w w':=by
 obtain ⟨-,-,rfl⟩:f.num.natAbs < 18446744073709551616∧f.den < 18446744073709551616∧v=.agg #[.bool (decide (f.num<0)),.int .u64 (f.num.natAbs:Int),.int .u64 ((f.den:Int)-1),.pointer none]:=by
  rcases hf with h | ⟨h,-⟩
  ·exact h
  ·omega
 have hd:=den_pos f
 by_cases h1:f.den=1
 ·have e1:(f.den:Int)-1=0:=by omega
  rw [e1]
  by_cases hs:f.num<0
  ·rw [decide_eq_true hs]
   by_cases hb:f.num.natAbs≤9223372036854775808
   ·obtain rfl:ok=true:=by
     rw [unhide hok,decide_eq_true h1,decide_eq_true (show -9223372036854775808≤f.num by omega),decide_eq_true (show f.num<9223372036854775808 by omega)];rfl
    have HZ:Hid (wrap64 (IntKind.u64.wrap (-((f.num.natAbs:Nat):Int)))=z):=by
     show _=_
     rw [unhide hz,if_pos rfl,IntKind.wrap_u64]
     unfold wrap64
     omega
    generalize hn:f.num.natAbs=n at *
    have hc:(n:Int)≤9223372036854775808:=by omega
    clear hn e1 hok hz hs hb hp hq hd
    go_enter Tryz.func37,Tryz.ntmps37
    go_wp2
    go_ret2
    exact ⟨by rw [← unhide HZ];rfl,(But.refl _ _).alloc _⟩
   ·obtain rfl:ok=false:=by
     rw [unhide hok,decide_eq_false (show ¬ -9223372036854775808≤f.num by omega)];simp
    obtain rfl:z=0:=unhide hz
    generalize hn:f.num.natAbs=n at *
    have hc:¬ (n:Int)≤9223372036854775808:=by omega
    clear hn e1 hok hz hs hb
    go_enter Tryz.func37,Tryz.ntmps37
    go_wp2
    go_ret2
    exact ⟨rfl,(But.refl _ _).alloc _⟩
  ·rw [decide_eq_false hs]
   by_cases hb:f.num.natAbs<9223372036854775808
   ·obtain rfl:ok=true:=by
     rw [unhide hok,decide_eq_true h1,decide_eq_true (show -9223372036854775808≤f.num by omega),decide_eq_true (show f.num<9223372036854775808 by omega)];rfl
    have hn0:z=((f.num.natAbs:Nat):Int):=by rw [unhide hz,if_pos rfl];omega
    rw [hn0]
    exact fracInt_small f.num.natAbs hb w
   ·obtain rfl:ok=false:=by
     rw [unhide hok,decide_eq_false (show ¬ f.num<9223372036854775808 by omega)];simp
    obtain rfl:z=0:=unhide hz
    exact fracInt_big f.num.natAbs (by omega) w
 ·obtain rfl:ok=false:=by
   rw [unhide hok,decide_eq_false h1];simp
  obtain rfl:z=0:=unhide hz
  generalize hn:f.num.natAbs=n at *
  generalize decide (f.num<0)=s at *
  obtain ⟨y,hy⟩:∃ y:Int,y=(f.den:Int)-1:=⟨_,rfl⟩
  have y0:(y==0)=false:=beq_eq_false_iff_ne.2 (by omega)
  have y1:¬ y=0:=by omega
  rw [← hy]
  clear hn hy hok hz
  go_enter Tryz.func37,Tryz.ntmps37
  go_wp2
  go_ret2
  exact ⟨rfl,(But.refl _ _).alloc _⟩
theorem fracPow_limit (fs:Bool) (fx fy m:Int) (hm1:-9223372036854775808≤m) (hm2:m<9223372036854775808) (hm:m < -200∨200<m) (w:World) :
  Calls Tryz.prog 22 #[.agg #[.bool fs,.int .u64 fx,.int .u64 fy,.pointer none],.int .i64 m] w fun e w'=>e=.returned (.tuple #[.agg #[.bool false,.int .u64 0,.int .u64 0,.pointer none],.iface 35 (.int .i64 4)])∧But [] w w':=by
 by_cases h1:m < -200
 ·go_enter Tryz.func22,Tryz.ntmps22
  go_wp2
  refine bodyPost_ret (v:=.tuple #[.agg #[.bool false,.int .u64 0,.int .u64 0,.pointer none],.iface 35 (.int .i64 4)]) (by simp [results,Tryz.results22,go_sem]) rfl ⟨rfl,?_⟩
  repeat (first | exact But.refl _ _ | refine But.alloc ?_ _ | refine But.drew ?_ | refine But.setCell ?_ (.inr (by simp)) _)
 ·have h2:200<m:=by omega
  go_enter Tryz.func22,Tryz.ntmps22
  go_wp2
  refine bodyPost_ret (v:=.tuple #[.agg #[.bool false,.int .u64 0,.int .u64 0,.pointer none],.iface 35 (.int .i64 4)]) (by simp [results,Tryz.results22,go_sem]) rfl ⟨rfl,?_⟩
  repeat (first | exact But.refl _ _ | refine But.alloc ?_ _ | refine But.drew ?_ | refine But.setCell ?_ (.inr (by simp)) _)
theorem fracPow_none (fs:Bool) (fx fy m:Int) (f:Rat) (hf:∀ W,FracAt W (.agg #[.bool fs,.int .u64 fx,.int .u64 fy,.pointer none]) f) (h0:f.num=0) (hm1:-200≤m) (hm2:m<0) (w:World) :
  Calls Tryz.prog 22 #[.agg #[.bool fs,.int .u64 fx,.int .u64 fy,.pointer none],.int .i64 m] w fun e w'=>e=.returned (.tuple #[.agg #[.bool false,.int .u64 0,.int .u64 0,.pointer none],.iface 35 (.int .i64 11)])∧But [] w w':=by
 have SG:=hide (fun W=>fracSign_any _ f W (hf W))
 rw [h0] at SG
 have SG':Hid (∀ W,Calls Tryz.prog 25 #[.agg #[.bool fs,.int .u64 fx,.int .u64 fy,.pointer none]] W fun e w'=>e=.returned (.int .i64 0)∧But [] W w'):=unhide SG
 obtain ⟨W,hW⟩:∃ W,W=((w.alloc (.cells #[.bool fs,.int .u64 fx,.int .u64 fy,.pointer none] 27)).alloc (.cells #[.bool false,.int .u64 0,.int .u64 0,.pointer none] 27)):=⟨_,rfl⟩
 obtain ⟨tA,tC,fz,hB⟩:=two_new w W _ _ _ hW
 have r0:=tC 0
 have r1:=tC 1
 have r2:=tC 2
 have r3:=tC 3
 simp only [List.getElem?_toArray,List.getElem?_cons_zero,List.getElem?_cons_succ] at r0 r1 r2 r3
 obtain ⟨gr,hgr⟩:∃ gr,gr=w.heap.size+1:=⟨_,rfl⟩
 rw [← hgr] at r0 r1 r2 r3 fz
 have HGR:Hid (w.heap.size≤gr):=by show _≤_;omega
 have HW:=hide hW
 have HB:=hide hB
 clear hW hB tA tC hf h0 SG
 go_enter Tryz.func22,Tryz.ntmps22
 go_wp2_with fail
 rw [← unhide HW]
 try rw [← hgr]
 clear hgr HW
 refine (unhide SG' _).mono ?_
 rintro e w1 ⟨rfl,hb1⟩
 have grl:gr<W.heap.size:=lt_of_cell r0
 have uf:∀ j,w1.frozen? ⟨gr,j,none⟩=false:=fun j=>(hb1.frozen (p:=⟨gr,j,none⟩) grl (by simp)).trans (fz j)
 have u0:=hb1.cell_some r0 (by simp)
 have u1:=hb1.cell_some r1 (by simp)
 have u2:=hb1.cell_some r2 (by simp)
 have u3:=hb1.cell_some r3 (by simp)
 have HB1:Hid (But [] w w1):=(unhide HB).trans' hb1
 clear hb1 r0 r1 r2 r3 fz grl HB SG'
 go_wp2
 refine bodyPost_ret (v:=.tuple #[.agg #[.bool false,.int .u64 0,.int .u64 0,.pointer none],.iface 35 (.int .i64 11)]) (by simp [results,Tryz.results22,go_sem,u0,u1,u2,u3]) rfl ⟨rfl,?_⟩
 repeat (first | exact unhide HB1 | refine But.alloc ?_ _ | refine But.drew ?_ | refine But.setCell ?_ (.inr (unhide HGR)) _)
theorem round_err (fs gs:Bool) (fx fy gx gy:Int) (g:Rat) (hg:∀ W,FracAt W (.agg #[.bool gs,.int .u64 gx,.int .u64 gy,.pointer none]) g) (h0:g.num≤0) (w:World) :
  Calls Tryz.prog 32 #[.agg #[.bool fs,.int .u64 fx,.int .u64 fy,.pointer none],.agg #[.bool gs,.int .u64 gx,.int .u64 gy,.pointer none]] w fun e w'=>e=.returned (.tuple #[.agg #[.bool false,.int .u64 0,.int .u64 0,.pointer none],.iface 35 (.int .i64 1)])∧But [] w w':=by
 obtain ⟨s,hs⟩:∃ s,s=g.num.sign:=⟨_,rfl⟩
 have SG:=hide (fun W=>fracSign_any _ g W (hg W))
 rw [← hs] at SG
 have hs0:s≤0:=by
  rw [hs]
  rcases Int.lt_or_le 0 g.num with h | h
  ·omega
  ·rcases Int.lt_trichotomy g.num 0 with h1 | h1 | h1
   ·rw [Int.sign_eq_neg_one_of_neg h1];omega
   ·rw [h1];decide
   ·omega
 obtain ⟨W,hW⟩:∃ W,W=(((w.alloc (.cells #[.bool fs,.int .u64 fx,.int .u64 fy,.pointer none] 27)).alloc (.cells #[.bool gs,.int .u64 gx,.int .u64 gy,.pointer none] 27)).alloc (.cells #[.bool false,.int .u64 0,.int .u64 0,.pointer none] 27)):=⟨_,rfl⟩
 obtain ⟨gr,hgr⟩:∃ gr,gr=w.heap.size+1+1:=⟨_,rfl⟩
 have hB:But [] w W:=by rw [hW];exact (((But.refl _ _).alloc _).alloc _).alloc _
 have r0:W.cell? ⟨gr,0,none⟩=some (.bool false):=by rw [hW,hgr,World.cell?_alloc_at _ _ _ _ (by simp)];rfl
 have r1:W.cell? ⟨gr,1,none⟩=some (.int .u64 0):=by rw [hW,hgr,World.cell?_alloc_at _ _ _ _ (by simp)];rfl
 have r2:W.cell? ⟨gr,2,none⟩=some (.int .u64 0):=by rw [hW,hgr,World.cell?_alloc_at _ _ _ _ (by simp)];rfl
 have r3:W.cell? ⟨gr,3,none⟩=some (.pointer none):=by rw [hW,hgr,World.cell?_alloc_at _ _ _ _ (by simp)];rfl
 have fz:∀ j,W.frozen? ⟨gr,j,none⟩=false:=fun j=>by
  rw [hW,hgr,show w.heap.size+1+1=((w.alloc (.cells #[.bool fs,.int .u64 fx,.int .u64 fy,.pointer none] 27)).alloc (.cells #[.bool gs,.int .u64 gx,.int .u64 gy,.pointer none] 27)).heap.size from by simp,World.frozen?_alloc_new]
 have HGR:Hid (w.heap.size≤gr):=by show _≤_;omega
 have HW:=hide hW
 have HB:=hide hB
 clear hW hB hg h0 hs
 go_enter Tryz.func32,Tryz.ntmps32
 go_wp2_with fail
 rw [← unhide HW]
 try rw [← hgr]
 clear hgr HW
 refine (unhide SG _).mono ?_
 rintro e w1 ⟨rfl,hb1⟩
 have grl:gr<W.heap.size:=lt_of_cell r0
 have uf:∀ j,w1.frozen? ⟨gr,j,none⟩=false:=fun j=>(hb1.frozen (p:=⟨gr,j,none⟩) grl (by simp)).trans (fz j)
 have u0:=hb1.cell_some r0 (by simp)
 have u1:=hb1.cell_some r1 (by simp)
 have u2:=hb1.cell_some r2 (by simp)
 have u3:=hb1.cell_some r3 (by simp)
 have HB1:Hid (But [] w w1):=(unhide HB).trans' hb1
 clear hb1 r0 r1 r2 r3 fz grl HB SG
 go_wp2
 refine bodyPost_ret (v:=.tuple #[.agg #[.bool false,.int .u64 0,.int .u64 0,.pointer none],.iface 35 (.int .i64 1)]) (by simp [results,Tryz.results32,go_sem,u0,u1,u2,u3]) rfl ⟨rfl,?_⟩
 repeat (first | exact unhide HB1 | refine But.alloc ?_ _ | refine But.drew ?_ | refine But.setCell ?_ (.inr (unhide HGR)) _)
theorem decimal_err (fs:Bool) (fx fy m:Int) (hm1:-9223372036854775808≤m) (hm2:m<9223372036854775808) (hm:m<0∨18<m) (w:World) :
  Calls Tryz.prog 36 #[.agg #[.bool fs,.int .u64 fx,.int .u64 fy,.pointer none],.int .i64 m] w fun e w'=>e=.returned (.tuple #[.string ⟨#[]⟩,.iface 35 (.int .i64 2)])∧But [] w w':=by
 by_cases h1:m<0
 ·go_enter Tryz.func36,Tryz.ntmps36
  go_wp2
  go_ret2
  refine ⟨rfl,?_⟩
  repeat (first | exact But.refl _ _ | refine But.alloc ?_ _ | refine But.drew ?_)
 ·have h2:18<m:=by omega
  go_enter Tryz.func36,Tryz.ntmps36
  go_wp2
  go_ret2
  refine ⟨rfl,?_⟩
  repeat (first | exact But.refl _ _ | refine But.alloc ?_ _ | refine But.drew ?_)
end Go.Proofs.YteipfplbcbaheaaGreatDoor
