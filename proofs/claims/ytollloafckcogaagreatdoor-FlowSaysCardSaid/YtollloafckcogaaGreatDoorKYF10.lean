/- The quotient of two fractions, as the Go -/
import Derived.Test.YtollloafckcogaaGreatDoorKYF7
namespace Go.Proofs.YtollloafckcogaaGreatDoor
open Go.RowKit
set_option maxHeartbeats 8000000
set_option maxRecDepth 100000
theorem fracDiv_any (vf vg:Value) (f g:Rat) (w:World) (hf:FracAt w vf f) (hg:FracAt w vg g) (lf:Len f 1000000) (lg:Len g 1000000) (h0:g.num≠0) :
  Calls Tryz.prog 103 #[vf,vg] w fun e w'=>∃ v,e=.returned (.tuple #[v,.nilIface])∧FracAt w' v (f/g)∧But [] w w':=by
 have lg':Len g⁻¹ 1000000:=by
  obtain ⟨i1,i2,-⟩:=inv_facts g h0
  unfold Len
  rw [i1,i2]
  exact ⟨lg.2,lg.1⟩
 have SG:=hide (fun W (h:FracAt W vg g)=>fracSign_any vg g W h)
 have hsn:(g.num.sign==0)=false:=beq_eq_false_iff_ne.2 (fun e=>h0 (Int.sign_eq_zero_iff_zero.1 e))
 generalize g.num.sign=sg at SG hsn
 have NG:=hide (fun W (h:FracAt W vg g)=>fracTurned_any vg g W h h0)
 have AD:Hid (∀ (W:World) (v2:Value),FracAt W vf f→FracAt W v2 g⁻¹→Calls Tryz.prog 58 #[vf,v2] W fun e w'=>∃ v,e=.returned v∧FracAt w' v (f/g)∧But [] W w'):=fun W v2 h1 h2=>by
  rw [Rat.div_def]
  exact fracMul_any vf v2 f g⁻¹ W h1 h2 lf lg'
 have HFA:=hide hf
 have HGA:=hide hg
 obtain ⟨x1,y1,p1,rfl,-⟩:=hf.agg
 obtain ⟨x2,y2,p2,rfl,-⟩:=hg.agg
 clear hf hg lf lg lg' h0
 generalize hsf:decide (f.num<0)=s1 at *
 generalize hsg:decide (g.num<0)=s2 at *
 clear hsf hsg
 obtain ⟨W,hW⟩:∃ W,W=(((w.alloc (.cells #[.bool s1,.int .u64 x1,.int .u64 y1,.pointer p1] 27)).alloc (.cells #[.bool s2,.int .u64 x2,.int .u64 y2,.pointer p2] 27)).alloc (.cells #[.bool false,.int .u64 0,.int .u64 0,.pointer none] 27)):=⟨_,rfl⟩
 obtain ⟨tA,tB,tC,fz,hB⟩:=three_new w W _ _ _ _ hW
 have a0:=tA 0
 have a1:=tA 1
 have a2:=tA 2
 have a3:=tA 3
 have b0:=tB 0
 have b1:=tB 1
 have b2:=tB 2
 have b3:=tB 3
 have r0:=tC 0
 have r1:=tC 1
 have r2:=tC 2
 have r3:=tC 3
 simp only [List.getElem?_toArray,List.getElem?_cons_zero,List.getElem?_cons_succ] at a0 a1 a2 a3 b0 b1 b2 b3 r0 r1 r2 r3
 have BL:Hid (Blank W (w.heap.size+2)):=⟨r0,r1,r2,r3,fun j hj=>by rw [tC j];simp;omega⟩
 clear tA tB tC
 have HW:=hide hW
 have HB:=hide hB
 clear hW hB
 go_enter Tryz.func103,Tryz.ntmps103
 go_wp2_with fail
 rw [← unhide HW]
 obtain ⟨ga,hga⟩:∃ ga,ga=w.heap.size:=⟨_,rfl⟩
 obtain ⟨gb,hgb⟩:∃ gb,gb=w.heap.size+1:=⟨_,rfl⟩
 obtain ⟨gr,hgr⟩:∃ gr,gr=w.heap.size+2:=⟨_,rfl⟩
 rw [← hga] at a0 a1 a2 a3
 rw [← hgb] at b0 b1 b2 b3
 rw [← hgr] at r0 r1 r2 r3 fz BL
 rw [show w.heap.size+1+1=w.heap.size+2 from rfl,← hgr,← hgb,← hga]
 have HGR:Hid (w.heap.size≤gr):=by show _≤_;omega
 have nga:ga≠gr:=by omega
 have ngb:gb≠gr:=by omega
 clear hga hgb hgr HW
 refine (unhide SG _ ((unhide HGA).but (unhide HB))).mono ?_
 rintro e W0 ⟨rfl,hc0⟩
 have gl0:gr<W.heap.size:=lt_of_cell r0
 replace fz:∀ j,W0.frozen? ⟨gr,j,none⟩=false:=fun j=>(hc0.frozen (p:=⟨gr,j,none⟩) gl0 (by simp)).trans (fz j)
 clear gl0
 replace a0:=hc0.cell_some a0 (by simp)
 replace a1:=hc0.cell_some a1 (by simp)
 replace a2:=hc0.cell_some a2 (by simp)
 replace a3:=hc0.cell_some a3 (by simp)
 replace b0:=hc0.cell_some b0 (by simp)
 replace b1:=hc0.cell_some b1 (by simp)
 replace b2:=hc0.cell_some b2 (by simp)
 replace b3:=hc0.cell_some b3 (by simp)
 replace r0:=hc0.cell_some r0 (by simp)
 replace r1:=hc0.cell_some r1 (by simp)
 replace r2:=hc0.cell_some r2 (by simp)
 replace r3:=hc0.cell_some r3 (by simp)
 replace BL:Hid (Blank W0 gr):=(unhide BL).but hc0
 replace HB:Hid (But [] w W0):=(unhide HB).trans' hc0
 clear hc0
 go_wp2_with fail
 have grl:gr<W0.heap.size:=lt_of_cell r0
 go_region_held (fun w'=>w'.cell? ⟨ga,0,none⟩=some (.bool s1)∧w'.cell? ⟨ga,1,none⟩=some (.int .u64 x1)∧w'.cell? ⟨ga,2,none⟩=some (.int .u64 y1)∧w'.cell? ⟨ga,3,none⟩=some (.pointer p1)∧w'.cell? ⟨gb,0,none⟩=some (.bool s2)∧w'.cell? ⟨gb,1,none⟩=some (.int .u64 x2)∧w'.cell? ⟨gb,2,none⟩=some (.int .u64 y2)∧w'.cell? ⟨gb,3,none⟩=some (.pointer p2)) (first | go_keep | exact ⟨set4_cell _ _ _ _ _ _ _ _ _ nga m0,set4_cell _ _ _ _ _ _ _ _ _ nga m1,set4_cell _ _ _ _ _ _ _ _ _ nga m2,set4_cell _ _ _ _ _ _ _ _ _ nga m3,set4_cell _ _ _ _ _ _ _ _ _ ngb n0,set4_cell _ _ _ _ _ _ _ _ _ ngb n1,set4_cell _ _ _ _ _ _ _ _ _ ngb n2,set4_cell _ _ _ _ _ _ _ _ _ ngb n3⟩) (first
  | (go_at_call 64;refine (unhide NG _ (by first | exact (unhide HGA).but (unhide HB) | exact (unhide HGA).but ((unhide HB).trans' (But.refl _ _).drew))).mono ?_;rintro e w1 ⟨v1,rfl,hn1,hc1⟩;have B1:But [] W0 w1:=(by first | exact hc1 | exact (But.refl _ _).drew.trans' hc1);have HN1:=hide hn1;clear hn1 hc1;have k0:=B1.cell_some a0 (by simp);have k1:=B1.cell_some a1 (by simp);have k2:=B1.cell_some a2 (by simp);have k3:=B1.cell_some a3 (by simp);have l0:=B1.cell_some b0 (by simp);have l1:=B1.cell_some b1 (by simp);have l2:=B1.cell_some b2 (by simp);have l3:=B1.cell_some b3 (by simp))
  | (go_at_call 58;refine (unhide AD _ _ (by first | exact (unhide HFA).but ((unhide HB).trans' B1) | exact (unhide HFA).but (((unhide HB).trans' B1).trans' (But.refl _ _).drew)) (by first | exact unhide HN1 | exact (unhide HN1).but (But.refl _ _).drew)).mono ?_;rintro e w2 ⟨v2,rfl,hn2,hc2⟩;have B2:But [] W0 w2:=(by first | exact B1.trans' hc2 | exact B1.trans' ((But.refl _ _).drew.trans' hc2));have HN2:=hide hn2;obtain ⟨x8,y8,p8,rfl,-⟩:=hn2.agg;clear hc2;clear hn2;generalize decide ((f/g).num<0)=r8 at *;have m0:=B2.cell_some a0 (by simp);have m1:=B2.cell_some a1 (by simp);have m2:=B2.cell_some a2 (by simp);have m3:=B2.cell_some a3 (by simp);have n0:=B2.cell_some b0 (by simp);have n1:=B2.cell_some b1 (by simp);have n2:=B2.cell_some b2 (by simp);have n3:=B2.cell_some b3 (by simp);have u0:=B2.cell_some r0 (by simp);have u1:=B2.cell_some r1 (by simp);have u2:=B2.cell_some r2 (by simp);have u3:=B2.cell_some r3 (by simp);have uf:∀ j,w2.frozen? ⟨gr,j,none⟩=false:=fun j=>(B2.frozen (p:=⟨gr,j,none⟩) grl (by simp)).trans (fz j)))
 go_wp2
 have hBf:=(((((unhide HB).trans' B2).setCell (p:=⟨gr,0,none⟩) (.inr (unhide HGR)) (.bool r8)).setCell (p:=⟨gr,1,none⟩) (.inr (unhide HGR)) (.int .u64 x8)).setCell (p:=⟨gr,2,none⟩) (.inr (unhide HGR)) (.int .u64 y8)).setCell (p:=⟨gr,3,none⟩) (.inr (unhide HGR)) (.pointer p8)
 have hBg:But [gr] w2 ((((w2.setCell ⟨gr,0,none⟩ (.bool r8)).setCell ⟨gr,1,none⟩ (.int .u64 x8)).setCell ⟨gr,2,none⟩ (.int .u64 y8)).setCell ⟨gr,3,none⟩ (.pointer p8)):=(((((But.refl [gr] w2).setCell (.inl (by simp)) _).setCell (.inl (by simp)) _).setCell (.inl (by simp)) _).setCell (.inl (by simp)) _)
 exact bodyPost_ret (v:=.tuple #[.agg #[.bool r8,.int .u64 x8,.int .u64 y8,.pointer p8],.nilIface]) (by simp [results,Tryz.results103,go_sem,u0,u1,u2,u3]) rfl ⟨_,rfl,((unhide BL).but B2).frac (unhide HN2) hBg,hBf⟩
end Go.Proofs.YtollloafckcogaaGreatDoor
