/- The quotient of two fractions, as the Go -/
import Derived.Test.YtagmkkiagjmimaaGreatDoorYK6
namespace Go.Proofs.YtagmkkiagjmimaaGreatDoor
set_option linter.unusedVariables false
open Go.Proofs.Tryz
open Go.RowKit
set_option maxHeartbeats 8000000
set_option maxRecDepth 100000
theorem ztz (vf vg:Value) (f g:Rat) (w:World) (hf:aq w vf f) (hg:aq w vg g) (lf:Len f 1000000) (lg:Len g 1000000) (h0:g.num≠0) :
   Calls prog 77 #[vf,vg] w fun e w'=>∃ v,e=.returned (.tuple #[v,.nilIface])∧aq w' v (f/g)∧But [] w w':=by(
 have lg':Len g⁻¹ 1000000:=by
  obtain⟨i1,i2,-⟩:=zjl g h0
  unfold Len
  rw[i1,i2]
  exact⟨lg.2,lg.1⟩
 have SG:=af (fun W (h:aq W vg g)=>ko vg g W h)
 have hsn:(g.num.sign==0)=false:=beq_eq_false_iff_ne.2 (fun e=>h0 (Int.sign_eq_zero_iff_zero.1 e))
 generalize g.num.sign=sg at SG hsn
 have NG:=af (fun W (h:aq W vg g)=>zmu vg g W h h0)
 have AD:Hid (∀ (W:World) (v2:Value),aq W vf f→aq W v2 g⁻¹→Calls prog 89 #[vf,v2] W fun e w'=>∃ v,e=.returned v∧aq w' v (f/g)∧But [] W w'):=fun W v2 h1 h2=>by
  rw[Rat.div_def]
  exact zay vf v2 f g⁻¹ W h1 h2 lf lg'
 have HFA:=af hf
 have HGA:=af hg
 obtain⟨x1,y1,p1,rfl,-⟩:=hf.agg
 obtain⟨x2,y2,p2,rfl,-⟩:=hg.agg
 clear hf hg lf lg lg' h0
 generalize hsf:decide (f.num<0)=s1 at *
 generalize hsg:decide (g.num<0)=s2 at *
 clear hsf hsg
 obtain⟨W,hW⟩:∃ W,W=(((w.alloc (.cells #[.bool s1,.int .u64 x1,.int .u64 y1,.pointer p1] 27)).alloc (.cells #[.bool s2,.int .u64 x2,.int .u64 y2,.pointer p2] 27)).alloc (.cells #[.bool false,.int .u64 0,.int .u64 0,.pointer none] 27)):=⟨_,rfl⟩
 obtain⟨tA,tB,tC,fz,hB⟩:=zah w W _ _ _ _ hW
 have a0:=tA 0
 have a1:=tA 1
 have a2:=tA 2
 have a3:=tA 3
 have b0:=tB 0
 have b1:=tB 1
 have b2:=tB 2
 have b3:=tB 3
 have r0:=tC 0
 have r1:=tC 1
 have r2:=tC 2
 have r3:=tC 3
 simp only[List.getElem?_toArray,List.getElem?_cons_zero,List.getElem?_cons_succ] at a0 a1 a2 a3 b0 b1 b2 b3 r0 r1 r2 r3
 have BL:Hid (Blank W (w.heap.size+2)):=⟨r0,r1,r2,r3,fun j hj=>by rw[tC j];simp;omega⟩
 clear tA tB tC
 have HW:=af hW
 have HB:=af hB
 clear hW hB
 go_enter func77,ntmps77
 go_wp2_with fail
 rw[← ae HW]
 obtain⟨ga,hga⟩:∃ ga,ga=w.heap.size:=⟨_,rfl⟩
 obtain⟨gb,hgb⟩:∃ gb,gb=w.heap.size+1:=⟨_,rfl⟩
 obtain⟨gr,hgr⟩:∃ gr,gr=w.heap.size+2:=⟨_,rfl⟩
 rw[← hga] at a0 a1 a2 a3
 rw[← hgb] at b0 b1 b2 b3
 rw[← hgr] at r0 r1 r2 r3 fz BL
 rw[show w.heap.size+1+1=w.heap.size+2 from rfl,← hgr,← hgb,← hga]
 have HGR:Hid (w.heap.size≤gr):=by show _≤_;omega
 have nga:ga≠gr:=by omega
 have ngb:gb≠gr:=by omega
 clear hga hgb hgr HW
 refine (ae SG _ ((ae HGA).but (ae HB))).mono ?_
 rintro e W0 ⟨rfl,hc0⟩
 have gl0:gr<W.heap.size:=ai r0
 replace fz:∀ j,W0.frozen? ⟨gr,j,none⟩=false:=fun j=>(hc0.frozen (p:=⟨gr,j,none⟩) gl0 (by simp)).trans (fz j)
 clear gl0
 replace a0:=hc0.ag a0 (by simp)
 replace a1:=hc0.ag a1 (by simp)
 replace a2:=hc0.ag a2 (by simp)
 replace a3:=hc0.ag a3 (by simp)
 replace b0:=hc0.ag b0 (by simp)
 replace b1:=hc0.ag b1 (by simp)
 replace b2:=hc0.ag b2 (by simp)
 replace b3:=hc0.ag b3 (by simp)
 replace r0:=hc0.ag r0 (by simp)
 replace r1:=hc0.ag r1 (by simp)
 replace r2:=hc0.ag r2 (by simp)
 replace r3:=hc0.ag r3 (by simp)
 replace BL:Hid (Blank W0 gr):=(ae BL).but hc0
 replace HB:Hid (But [] w W0):=(ae HB).trans' hc0
 clear hc0
 go_wp2_with fail
 have grl:gr<W0.heap.size:=ai r0
 go_region_held (fun w'=>w'.cell? ⟨ga,0,none⟩=some (.bool s1)∧w'.cell? ⟨ga,1,none⟩=some (.int .u64 x1)∧w'.cell? ⟨ga,2,none⟩=some (.int .u64 y1)∧w'.cell? ⟨ga,3,none⟩=some (.pointer p1)∧w'.cell? ⟨gb,0,none⟩=some (.bool s2)∧w'.cell? ⟨gb,1,none⟩=some (.int .u64 x2)∧w'.cell? ⟨gb,2,none⟩=some (.int .u64 y2)∧w'.cell? ⟨gb,3,none⟩=some (.pointer p2)) (first | go_keep | exact⟨q9 _ _ _ _ _ _ _ _ _ nga m0,q9 _ _ _ _ _ _ _ _ _ nga m1,q9 _ _ _ _ _ _ _ _ _ nga m2,q9 _ _ _ _ _ _ _ _ _ nga m3,q9 _ _ _ _ _ _ _ _ _ ngb n0,q9 _ _ _ _ _ _ _ _ _ ngb n1,q9 _ _ _ _ _ _ _ _ _ ngb n2,q9 _ _ _ _ _ _ _ _ _ ngb n3⟩) (first
  | (go_at_call 125;refine (ae NG _ (by first | exact (ae HGA).but (ae HB) | exact (ae HGA).but ((ae HB).trans' (But.refl _ _).drew))).mono ?_;rintro e w1 ⟨v1,rfl,hn1,hc1⟩;have B1:But [] W0 w1:=(by first | exact hc1 | exact (But.refl _ _).drew.trans' hc1);have HN1:=af hn1;clear hn1 hc1;have k0:=B1.ag a0 (by simp);have k1:=B1.ag a1 (by simp);have k2:=B1.ag a2 (by simp);have k3:=B1.ag a3 (by simp);have l0:=B1.ag b0 (by simp);have l1:=B1.ag b1 (by simp);have l2:=B1.ag b2 (by simp);have l3:=B1.ag b3 (by simp))
  | (go_at_call 89;refine (ae AD _ _ (by first | exact (ae HFA).but ((ae HB).trans' B1) | exact (ae HFA).but (((ae HB).trans' B1).trans' (But.refl _ _).drew)) (by first | exact ae HN1 | exact (ae HN1).but (But.refl _ _).drew)).mono ?_;rintro e w2 ⟨v2,rfl,hn2,hc2⟩;have B2:But [] W0 w2:=(by first | exact B1.trans' hc2 | exact B1.trans' ((But.refl _ _).drew.trans' hc2));have HN2:=af hn2;obtain⟨x8,y8,p8,rfl,-⟩:=hn2.agg;clear hc2;clear hn2;generalize decide ((f/g).num<0)=r8 at *;have m0:=B2.ag a0 (by simp);have m1:=B2.ag a1 (by simp);have m2:=B2.ag a2 (by simp);have m3:=B2.ag a3 (by simp);have n0:=B2.ag b0 (by simp);have n1:=B2.ag b1 (by simp);have n2:=B2.ag b2 (by simp);have n3:=B2.ag b3 (by simp);have u0:=B2.ag r0 (by simp);have u1:=B2.ag r1 (by simp);have u2:=B2.ag r2 (by simp);have u3:=B2.ag r3 (by simp);have uf:∀ j,w2.frozen? ⟨gr,j,none⟩=false:=fun j=>(B2.frozen (p:=⟨gr,j,none⟩) grl (by simp)).trans (fz j)))
 go_wp2
 have hBf:=(((((ae HB).trans' B2).setCell (p:=⟨gr,0,none⟩) (.inr (ae HGR)) (.bool r8)).setCell (p:=⟨gr,1,none⟩) (.inr (ae HGR)) (.int .u64 x8)).setCell (p:=⟨gr,2,none⟩) (.inr (ae HGR)) (.int .u64 y8)).setCell (p:=⟨gr,3,none⟩) (.inr (ae HGR)) (.pointer p8)
 have hBg:But [gr] w2 ((((w2.setCell ⟨gr,0,none⟩ (.bool r8)).setCell ⟨gr,1,none⟩ (.int .u64 x8)).setCell ⟨gr,2,none⟩ (.int .u64 y8)).setCell ⟨gr,3,none⟩ (.pointer p8)):=(((((But.refl [gr] w2).setCell (.inl (by simp)) _).setCell (.inl (by simp)) _).setCell (.inl (by simp)) _).setCell (.inl (by simp)) _)
 exact bodyPost_ret (v:=.tuple #[.agg #[.bool r8,.int .u64 x8,.int .u64 y8,.pointer p8],.nilIface]) (by simp[results,results77,go_sem,u0,u1,u2,u3]) rfl ⟨_,rfl,((ae BL).but B2).zwg (ae HN2) hBg,hBf⟩)
theorem zia (v:Value) (fs:List Rat) (m:Nat) (w:World) (hv:au w v fs) (hn:fs.length≤1000) (hm:m<fs.length) (h1:(fs[m]?.getD 0).num≠0) (h2:∀ j,m<j→j<fs.length→(fs[j]?.getD 0).num=0) :
   Calls prog 121 #[v] w fun e w'=>e=.returned (.int .i64 (m:Int))∧But [] w w':=by(
 rcases hv.open with ⟨rfl,-⟩|⟨-,b,off,cap,rfl,-,-⟩
 ·simp at hm
 obtain⟨n,hN⟩:∃ n,n=fs.length:=⟨_,rfl⟩
 rw[← hN] at hn hm h2 ⊢
 rw[← hN] at hv
 have HV:=af hv
 have H1:=af h1
 have H2:=af h2
 clear hv h1 h2 hN
 have hn1:((n:Int)-1)=((n-1:Nat):Int):=by omega
 go_enter func121,ntmps121
 go_wp2
 go_loopw [3] (fun iv wr=>∃ k:Nat,m≤k∧k<n∧iv=.int .i64 (k:Int)∧Hid (But [] w wr)) (fun iv _=>(intOf iv).toNat)
 case atStart=>exact⟨n-1,by omega,by omega,by first|rfl | rw[hn1],But.refl _ _⟩
 case round =>(
 obtain⟨k,hmk,hkn,rfl,HI⟩:=hrel
 rename World=>wr
 obtain⟨sr,xr,yr,pr,⟨r0,r1,r2,r3⟩,hfr⟩:=((ae HV).but (ae HI)).get k hkn
 have SG:=af (ko _ _ wr hfr)
 clear hfr
 by_cases hk:k=m
 ·(
 subst hk
 have hs:(fs[k]?.getD 0).num.sign≠0:=fun e=>ae H1 (Int.sign_eq_zero_iff_zero.1 e)
 generalize (fs[k]?.getD 0).num.sign=sg at *
 go_wp2_with fail
 refine (ae SG).mono ?_
 rintro e w1 ⟨rfl,hb1⟩
 have B1:=af ((ae HI).trans' hb1)
 clear hb1
 go_wp2
 go_ret
 exact⟨rfl,ae B1⟩)
 ·(
 rw[ae H2 k (by omega) hkn,Int.sign_zero] at SG
 go_wp2_with fail
 refine (ae SG).mono ?_
 rintro e w1 ⟨rfl,hb1⟩
 have B1:=af ((ae HI).trans' hb1)
 clear hb1
 have hk1:((k:Int)-1)=((k-1:Nat):Int):=by omega
 go_wp2
 exact⟨⟨k-1,by omega,by omega,by first|rfl | rw[hk1],ae B1⟩,by simp[intOf];omega⟩)))
end Go.Proofs.YtagmkkiagjmimaaGreatDoor
