/- Steps of Euclid's by leading bits, as th -/
import Derived.Test.YtagmkkiagjmimaaGreatDoorSN17
namespace Go.Proofs.YtagmkkiagjmimaaGreatDoor
set_option linter.unusedVariables false
open Go.Proofs.Tryz
open Go.RowKit
set_option maxHeartbeats 8000000
set_option maxRecDepth 100000
theorem zob (b1 o1 c1 b2 o2 c2 nx ny:Nat) (w:World) (x1 x0 y1 y0 a0 d0 n m:Nat) (X Y:Nat) (hnx:nx=m+2) (hny:ny=m+2) (hm:m<268435456)
   (k1:w.cell? ⟨b1,o1+(m+1),none⟩=some (.int .u64 (x1:Int))) (k0:w.cell? ⟨b1,o1+m,none⟩=some (.int .u64 (x0:Int))) (l1:ny=m+2→w.cell? ⟨b2,o2+(m+1),none⟩=some (.int .u64 (y1:Int))) (l0:w.cell? ⟨b2,o2+m,none⟩=some (.int .u64 (y0:Int)))
   (hx1:0<x1) (hx1B:x1 < 18446744073709551616) (hx0B:x0 < 18446744073709551616) (_hy1B:y1 < 18446744073709551616) (hy0B:y0 < 18446744073709551616) (hn:n≤63) (hlz:Hid (lz x1=n)) (ha:Hid (a0=x1*2^n+x0/2^(64-n))) (hd:Hid (d0=(if ny=m+2 then y1*2^n else 0)+y0/2^(64-n))) (hxs:x1*2^n < 18446744073709551616) (hys:ny=m+2→y1*2^n < 18446744073709551616) (haB:a0 < 18446744073709551616) (hdB:d0 < 18446744073709551616) (hda:d0≤a0)
   (hfin:Hid (∀ a b xx xy yx yy back,Lst a0 d0 a b xx xy yx yy back→uj X Y xx xy yx yy back)) (hc1:nx≤c1) (hc2:ny≤c2) :
   Calls prog 239 #[.slice (some ⟨b1,o1,none⟩) nx c1,.slice (some ⟨b2,o2,none⟩) ny c2] w fun e w'=>∃ (xx xy yx yy:Nat) (back:Bool),e=.returned (.agg #[.int .u64 (xx:Int),.int .u64 (xy:Int),.int .u64 (yx:Int),.int .u64 (yy:Int),.bool back])∧xx < 18446744073709551616∧xy < 18446744073709551616∧yx < 18446744073709551616∧yy < 18446744073709551616∧uj X Y xx xy yx yy back∧But [] w w':=by(
 subst hnx
 have hb1:b1<w.heap.size:=ai k1
 have hb2:b2<w.heap.size:=ai l0
 have LZ:=af (fun W=>zeg x1 hx1 hx1B W)
 rw[ae hlz] at LZ
 have E1:bits .or .u64 (IntKind.u64.wrap ((x1:Int)*2^n)) ((x0:Int)/2^(64-n))=(a0:Int):=by
  have e1:IntKind.u64.wrap ((x1:Int)*2^n)=((x1*2^n:Nat):Int):=by
   have e:(x1:Int)*2^n=((x1*2^n:Nat):Int):=by simp
   rw[e,IntKind.wrap_u64];omega
  have e2:(x0:Int)/2^(64-n)=((x0/2^(64-n):Nat):Int):=by simp
  rw[e1,e2,bits_or_u64_nat _ _ hxs (Nat.lt_of_le_of_lt (Nat.div_le_self _ _) hx0B),(zqd x1 x0 n hn hx0B).1,ae ha]
 have hl0:Hid (Lst a0 d0 a0 d0 1 0 0 1 false):=⟨Leh.start a0 d0,hda,.inl ⟨rfl,rfl,rfl,rfl⟩⟩
 obtain⟨z0,hz0⟩:∃ z0,z0=y0/2^(64-n):=⟨_,rfl⟩
 have E2:(y0:Int)/2^(64-n)=(z0:Int):=by rw[hz0];simp
 subst hny
 have l1':=l1 rfl
 have E3:bits .or .u64 (z0:Int) (IntKind.u64.wrap ((y1:Int)*2^n))=(d0:Int):=by
  have hy:=hys rfl
  have e1:IntKind.u64.wrap ((y1:Int)*2^n)=((y1*2^n:Nat):Int):=by
   have e:(y1:Int)*2^n=((y1*2^n:Nat):Int):=by simp
   rw[e,IntKind.wrap_u64];omega
  rw[e1,hz0,bits_or_u64_nat _ _ (Nat.lt_of_le_of_lt (Nat.div_le_self _ _) hy0B) hy,Nat.or_comm,(zqd y1 y0 n hn hy0B).1,ae hd,if_pos rfl]
 clear hz0 l1 hys hd ha hlz
 go_enter func239,ntmps239
 go_wp2_with fail
 refine (ae LZ _).mono ?_
 rintro e w1 ⟨rfl,hw⟩
 obtain rfl:=hw.symm
 clear hw
 go_wp2_with fail
 obtain⟨W,hW⟩:∃ W,W=w.alloc (.cells #[.int .u64 0,.int .u64 0,.int .u64 0,.int .u64 0,.bool false] 276):=⟨_,rfl⟩
 have HB:Hid (But [] w W):=by show But _ _ _;rw[hW];exact (But.refl _ _).alloc _
 have q1:=(ae HB).ag k1 (by simp)
 have q0:=(ae HB).ag k0 (by simp)
 have r1:=(ae HB).ag l1' (by simp)
 have r0:=(ae HB).ag l0 (by simp)
 have hG:Hid (w.heap.size<W.heap.size∧∀ j,W.frozen? ⟨w.heap.size,j,none⟩=false):=by rw[hW];exact⟨by simp,fun j=>by simp⟩
 have g0:W.cell? ⟨w.heap.size,0,none⟩=some (.int .u64 0):=by rw[hW];simp
 have g1:W.cell? ⟨w.heap.size,1,none⟩=some (.int .u64 0):=by rw[hW];simp
 have g2:W.cell? ⟨w.heap.size,2,none⟩=some (.int .u64 0):=by rw[hW];simp
 have g3:W.cell? ⟨w.heap.size,3,none⟩=some (.int .u64 0):=by rw[hW];simp
 have g4:W.cell? ⟨w.heap.size,4,none⟩=some (.bool false):=by rw[hW];simp
 rw[← hW]
 have HW:=af hW
 clear hW k1 k0 l1' l0
 generalize hgs:w.heap.size=gs at *
 have HGS:=af hgs
 clear hgs
 go_quiet (fail)
 obtain⟨V,hV⟩:∃ V,V=W.drewN nq:=⟨_,rfl⟩
 rw[← hV]
 have hVc:∀ p,V.cell? p=W.cell? p:=fun p=>by rw[hV];rfl
 have HBV:Hid (But [] w V):=by show But _ _ _;rw[hV];exact (ae HB).drewN nq
 have HGV:Hid (gs<V.heap.size∧∀ j,V.frozen? ⟨gs,j,none⟩=false):=by rw[hV];exact ae hG
 rw[← hVc] at q1 q0 r1 r0 g0 g1 g2 g3 g4
 clear hV hVc HB hG HW
 have hb1V:b1<V.heap.size:=ai q1
 have hb2V:b2<V.heap.size:=ai r0
 go_wp2
 have HBA:=(But.refl [] V).alloc (.cells #[.int .u64 1,.int .u64 0,.int .u64 0,.int .u64 1,.bool false] 276)
 have HZ1:V.heap.size<(V.alloc (.cells #[.int .u64 1,.int .u64 0,.int .u64 0,.int .u64 1,.bool false] 276)).heap.size:=by simp
 have HZ2:gs<(V.alloc (.cells #[.int .u64 1,.int .u64 0,.int .u64 0,.int .u64 1,.bool false] 276)).heap.size:=by have:=(ae HGV).1;simp;omega
 have HZ3:Hid ((V.alloc (.cells #[.int .u64 1,.int .u64 0,.int .u64 0,.int .u64 1,.bool false] 276)).cell? ⟨V.heap.size,0,none⟩=some (.int .u64 ((1:Nat):Int))∧(V.alloc (.cells #[.int .u64 1,.int .u64 0,.int .u64 0,.int .u64 1,.bool false] 276)).cell? ⟨V.heap.size,1,none⟩=some (.int .u64 ((0:Nat):Int))∧(V.alloc (.cells #[.int .u64 1,.int .u64 0,.int .u64 0,.int .u64 1,.bool false] 276)).cell? ⟨V.heap.size,2,none⟩=some (.int .u64 ((0:Nat):Int))∧(V.alloc (.cells #[.int .u64 1,.int .u64 0,.int .u64 0,.int .u64 1,.bool false] 276)).cell? ⟨V.heap.size,3,none⟩=some (.int .u64 ((1:Nat):Int))∧(V.alloc (.cells #[.int .u64 1,.int .u64 0,.int .u64 0,.int .u64 1,.bool false] 276)).cell? ⟨V.heap.size,4,none⟩=some (.bool false)):=by
  refine⟨?_,?_,?_,?_,?_⟩ <;> simp
 have HZ4:Hid (∀ j,(V.alloc (.cells #[.int .u64 1,.int .u64 0,.int .u64 0,.int .u64 1,.bool false] 276)).frozen? ⟨V.heap.size,j,none⟩=false):=fun j=>by simp
 have hgne:gs≠V.heap.size:=by have:=(ae HGV).1;omega
 generalize hgz:V.heap.size=gz at *
 have HGZ:Hid (V.heap.size≤gz):=Nat.le_of_eq hgz
 clear hgz
 go_loopw [7,8] (fun pa pb wr=>∃ (a b xx xy yx yy:Nat) (back:Bool),pa=.int .u64 a∧pb=.int .u64 b∧a < 18446744073709551616∧b < 18446744073709551616∧xx < 18446744073709551616∧xy < 18446744073709551616∧yx < 18446744073709551616∧yy < 18446744073709551616∧Hid (Lst a0 d0 a b xx xy yx yy back∧But [] V wr∧gz<wr.heap.size∧gs<wr.heap.size)∧Hid (wr.cell? ⟨gz,0,none⟩=some (.int .u64 (xx:Int))∧wr.cell? ⟨gz,1,none⟩=some (.int .u64 (xy:Int))∧wr.cell? ⟨gz,2,none⟩=some (.int .u64 (yx:Int))∧wr.cell? ⟨gz,3,none⟩=some (.int .u64 (yy:Int))∧wr.cell? ⟨gz,4,none⟩=some (.bool back))∧Hid (∀ j,wr.frozen? ⟨gz,j,none⟩=false)) (fun _ pb _=>(intOf pb).toNat)
 case atStart=>exact⟨a0,d0,1,0,0,1,false,rfl,rfl,haB,hdB,by omega,by omega,by omega,by omega,⟨ae hl0,HBA,HZ1,HZ2⟩,HZ3,HZ4⟩
 case round =>(
 clear HZ3 HZ4 HZ1 HZ2 HBA hl0
 obtain⟨a,b,xx,xy,yx,yy,back,rfl,rfl,haB',hbB,hB1,hB2,hB3,hB4,HI,HC,HF⟩:=hrel
 rename World=>wr
 obtain⟨c0,c1',c2',c3,c4⟩:=ae HC
 have hzs:=(ae HI).2.2.1
 have hss:=(ae HI).2.2.2
 have s0:=(ae HI).2.1.ag g0 (by simp)
 have s1:=(ae HI).2.1.ag g1 (by simp)
 have s2:=(ae HI).2.1.ag g2 (by simp)
 have s3:=(ae HI).2.1.ag g3 (by simp)
 have s4:=(ae HI).2.1.ag g4 (by simp)
 have f9:=ae HF
 have hgV:gs<V.heap.size:=ai g0
 have fs:∀ j,wr.frozen? ⟨gs,j,none⟩=false:=fun j=>((ae HI).2.1.frozen (p:=⟨gs,j,none⟩) hgV (by simp)).trans ((ae HGV).2 j)
 clear HC HF g0 g1 g2 g3 g4 q1 q0 r1 r0
 by_cases hb0:b=0
 ·(
 subst hb0
 go_wp2
 refine bodyPost_ret (v:=.agg #[.int .u64 (xx:Int),.int .u64 (xy:Int),.int .u64 (yx:Int),.int .u64 (yy:Int),.bool back]) (by simp[results,results239,go_sem,s0,s1,s2,s3,s4]) rfl ⟨xx,xy,yx,yy,back,rfl,hB1,hB2,hB3,hB4,ae hfin _ _ _ _ _ _ _ (ae HI).1,?_⟩
 have hge:w.heap.size≤gs:=Nat.le_of_eq (ae HGS)
 exact ((((((ae HBV).trans' (ae HI).2.1).setCell (.inr hge) _).setCell (.inr hge) _).setCell (.inr hge) _).setCell (.inr hge) _).setCell (.inr hge) _)
 ·(
 have hbz:((b:Int)==0)=false:=beq_eq_false_iff_ne.2 (by omega)
 have hbn:((b:Int) != 0)=true:=by simp;omega
 obtain⟨q,hq⟩:∃ q,a/b=q:=⟨_,rfl⟩
 obtain⟨b',hb'⟩:∃ b',a%b=b':=⟨_,rfl⟩
 have hdm:=Nat.div_add_mod a b
 rw[hq,hb',Nat.mul_comm] at hdm
 have hlt:b' < b:=by rw[← hb'];exact Nat.mod_lt _ (by omega)
 have E5:(a:Int)/(b:Int)=(q:Int):=by rw[← hq,Int.natCast_ediv]
 have E6:(a:Int).tdiv (b:Int)=(q:Int):=by rw[Int.tdiv_eq_ediv_of_nonneg (by omega)];exact E5
 have hqa:q≤a:=by rw[← hq];exact Nat.div_le_self _ _
 have hqb:q*b≤a:=by omega
 have E7:IntKind.u64.wrap (q:Int)=(q:Int):=by rw[IntKind.wrap_u64];omega
 obtain⟨nl,-,-⟩:=(ae HI).1.next q b' hdm.symm hlt
 have hbd:=nl.bound (by omega)
 obtain⟨n2,hn2⟩:∃ n2,xx+q*yx=n2:=⟨_,rfl⟩
 obtain⟨n3,hn3⟩:∃ n3,xy+q*yy=n3:=⟨_,rfl⟩
 rw[hn2,hn3] at hbd
 have hn2B:n2 < 18446744073709551616:=by omega
 have hn3B:n3 < 18446744073709551616:=by omega
 have hm2:q*yx≤n2:=by omega
 have hm3:q*yy≤n3:=by omega
 have E8:(xx:Int)+(q:Int)*(yx:Int)=(n2:Int):=by rw[← hn2];simp
 have E9:(xy:Int)+(q:Int)*(yy:Int)=(n3:Int):=by rw[← hn3];simp
 have E10:(a:Int)-(q:Int)*(b:Int)=(b':Int):=by rw[← Int.natCast_mul];omega
 have NX:=af (fun c1 c2=>(ae HI).1.taken q b' hdm.symm hlt (by rw[hn3];exact c1) (by rw[hn3];exact c2))
 rw[hn2,hn3] at NX
 have hn3p:0<n3:=by
  have h1:=(ae HI).1.yy
  have h2:=(ae HI).1.2.1
  have h3:0<q:=by
   rcases Nat.eq_zero_or_pos q with h | h
   ·subst h;omega
   ·exact h
  have:=Nat.mul_pos h3 h1
  omega
 have BD:=af (fun (hb:0<b')=>by have:=nl.qea (by omega) hb;rw[hn3] at this;exact this)
 clear hdm hq hb' hbd nl hn2 hn3
 by_cases hc1:b' < n3
 ·go_wp2
  refine bodyPost_ret (v:=.agg #[.int .u64 (xx:Int),.int .u64 (xy:Int),.int .u64 (yx:Int),.int .u64 (yy:Int),.bool back]) (by simp[results,results239,go_sem,s0,s1,s2,s3,s4,hss]) rfl ⟨xx,xy,yx,yy,back,rfl,hB1,hB2,hB3,hB4,ae hfin _ _ _ _ _ _ _ (ae HI).1,?_⟩
  have hge:w.heap.size≤gs:=Nat.le_of_eq (ae HGS)
  exact (((((((ae HBV).trans' (ae HI).2.1).setCell (.inr hge) _).setCell (.inr hge) _).setCell (.inr hge) _).setCell (.inr hge) _).setCell (.inr hge) _).alloc _
 ·(
 have hc1':n3≤b':=by omega
 have hsB:yy+n3≤a0:=ae BD (by omega)
 by_cases hc2:b-b' < yy+n3
 ·(
 have hc2':(b:Int)-(b':Int)<(yy:Int)+(n3:Int):=by omega
 go_wp2
 refine bodyPost_ret (v:=.agg #[.int .u64 (xx:Int),.int .u64 (xy:Int),.int .u64 (yx:Int),.int .u64 (yy:Int),.bool back]) (by simp[results,results239,go_sem,s0,s1,s2,s3,s4,hss]) rfl ⟨xx,xy,yx,yy,back,rfl,hB1,hB2,hB3,hB4,ae hfin _ _ _ _ _ _ _ (ae HI).1,?_⟩
 have hge:w.heap.size≤gs:=Nat.le_of_eq (ae HGS)
 exact (((((((ae HBV).trans' (ae HI).2.1).setCell (.inr hge) _).setCell (.inr hge) _).setCell (.inr hge) _).setCell (.inr hge) _).setCell (.inr hge) _).alloc _)
 ·(
 have hc2':¬ ((b:Int)-(b':Int)<(yy:Int)+(n3:Int)):=by omega
 have HN:=af (ae NX hc1' (by omega))
 go_wp2
 refine⟨⟨b,b',yx,yy,n2,n3,!back,rfl,rfl,hbB,by omega,hB3,hB4,hn2B,hn3B,⟨ae HN,?_,?_,?_⟩,?_,?_⟩,?_⟩
 ·exact ((((((ae HI).2.1.setCell (.inr (ae HGZ)) _).setCell (.inr (ae HGZ)) _).setCell (.inr (ae HGZ)) _).setCell (.inr (ae HGZ)) _).setCell (.inr (ae HGZ)) _).alloc _
 ·simp;omega
 ·simp;omega
 ·exact (zdj wr gz _ _ _ _ _ _ _ _ _ _ _ _ hzs c0 c1' c2' c3 c4 f9).1
 ·exact (zdj wr gz _ _ _ _ _ _ _ _ _ _ _ _ hzs c0 c1' c2' c3 c4 f9).2
 ·simp[intOf];omega)))))
end Go.Proofs.YtagmkkiagjmimaaGreatDoor
