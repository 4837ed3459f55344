/- Steps of Euclid's by leading bits, as th -/
import Derived.Test.YtagmkkiagjmimaaGreatDoorXN18
namespace Go.Proofs.YtagmkkiagjmimaaGreatDoor
set_option linter.unusedVariables false
open Go.Proofs.Tryz
open Go.RowKit
set_option maxHeartbeats 8000000
set_option maxRecDepth 100000
def zab (X Y xx xy yx yy:Nat) (back:Bool):Prop:=xy=0∨∃ X' Y':Nat,(if back then X' + xx*X=xy*Y∧Y' + yy*Y=yx*X else X' + xy*Y=xx*X∧Y' + yx*X=yy*Y)∧Y' < X'∧X'≤Y∧Nat.gcd X' Y'=Nat.gcd X Y
theorem zab.of {a0 b0 a b xx xy yx yy:Nat} {back:Bool} (h:Lst a0 b0 a b xx xy yx yy back) (X Y K ε δ:Nat) (hX:X=a0*K+ε) (hY:Y=b0*K+δ) (hε:ε<K) (hδ:δ<K):zab X Y xx xy yx yy back:=by(
 obtain⟨h1,-,h2 | h2⟩:=h
 ·exact .inl h2.2.1
 ·exact .inr (h1.apply h2 X Y K ε δ hX hY hε hδ))
theorem zdy (wr:World) (gz:Nat) (t:TypeId) (v0 v1 v2 v3 v4 u0 u1 u2 u3 u4:Value) (cs:Array Value) (h:gz<wr.heap.size) (c0:wr.cell? ⟨gz,0,none⟩=some u0) (c1:wr.cell? ⟨gz,1,none⟩=some u1) (c2:wr.cell? ⟨gz,2,none⟩=some u2) (c3:wr.cell? ⟨gz,3,none⟩=some u3) (c4:wr.cell? ⟨gz,4,none⟩=some u4) (hf:∀ j,wr.frozen? ⟨gz,j,none⟩=false) :
   (((((((wr.setCell ⟨gz,0,none⟩ v0).setCell ⟨gz,1,none⟩ v1).setCell ⟨gz,2,none⟩ v2).setCell ⟨gz,3,none⟩ v3).setCell ⟨gz,4,none⟩ v4).alloc (.cells cs t)).cell? ⟨gz,0,none⟩=some v0 ∧
   ((((((wr.setCell ⟨gz,0,none⟩ v0).setCell ⟨gz,1,none⟩ v1).setCell ⟨gz,2,none⟩ v2).setCell ⟨gz,3,none⟩ v3).setCell ⟨gz,4,none⟩ v4).alloc (.cells cs t)).cell? ⟨gz,1,none⟩=some v1 ∧
   ((((((wr.setCell ⟨gz,0,none⟩ v0).setCell ⟨gz,1,none⟩ v1).setCell ⟨gz,2,none⟩ v2).setCell ⟨gz,3,none⟩ v3).setCell ⟨gz,4,none⟩ v4).alloc (.cells cs t)).cell? ⟨gz,2,none⟩=some v2 ∧
   ((((((wr.setCell ⟨gz,0,none⟩ v0).setCell ⟨gz,1,none⟩ v1).setCell ⟨gz,2,none⟩ v2).setCell ⟨gz,3,none⟩ v3).setCell ⟨gz,4,none⟩ v4).alloc (.cells cs t)).cell? ⟨gz,3,none⟩=some v3 ∧
   ((((((wr.setCell ⟨gz,0,none⟩ v0).setCell ⟨gz,1,none⟩ v1).setCell ⟨gz,2,none⟩ v2).setCell ⟨gz,3,none⟩ v3).setCell ⟨gz,4,none⟩ v4).alloc (.cells cs t)).cell? ⟨gz,4,none⟩=some v4) ∧
   ∀ j,((((((wr.setCell ⟨gz,0,none⟩ v0).setCell ⟨gz,1,none⟩ v1).setCell ⟨gz,2,none⟩ v2).setCell ⟨gz,3,none⟩ v3).setCell ⟨gz,4,none⟩ v4).alloc (.cells cs t)).frozen? ⟨gz,j,none⟩=false:=by(
 have e0:∀ (w:World) (o:Obj) (p:Addr),p.block<w.heap.size→(w.alloc o).cell? p=w.cell? p:=fun w o p hp=>((But.refl [] w).alloc o).cell hp (by simp)
 have e1:∀ (w:World) (o:Obj) (p:Addr),p.block<w.heap.size→(w.alloc o).frozen? p=w.frozen? p:=fun w o p hp=>((But.refl [] w).alloc o).frozen hp (by simp)
 have k0:=World.cell?_setCell_same wr ⟨gz,0,none⟩ v0 c0
 have k1:=World.cell?_setCell_same (wr.setCell ⟨gz,0,none⟩ v0) ⟨gz,1,none⟩ v1 (u:=u1) (by rw[World.cell?_setCell_other _ _ _ _ (by simp)];exact c1)
 have k2:=World.cell?_setCell_same ((wr.setCell ⟨gz,0,none⟩ v0).setCell ⟨gz,1,none⟩ v1) ⟨gz,2,none⟩ v2 (u:=u2) (by rw[World.cell?_setCell_other _ _ _ _ (by simp),World.cell?_setCell_other _ _ _ _ (by simp)];exact c2)
 have k3:=World.cell?_setCell_same (((wr.setCell ⟨gz,0,none⟩ v0).setCell ⟨gz,1,none⟩ v1).setCell ⟨gz,2,none⟩ v2) ⟨gz,3,none⟩ v3 (u:=u3) (by rw[World.cell?_setCell_other _ _ _ _ (by simp),World.cell?_setCell_other _ _ _ _ (by simp),World.cell?_setCell_other _ _ _ _ (by simp)];exact c3)
 have k4:=World.cell?_setCell_same ((((wr.setCell ⟨gz,0,none⟩ v0).setCell ⟨gz,1,none⟩ v1).setCell ⟨gz,2,none⟩ v2).setCell ⟨gz,3,none⟩ v3) ⟨gz,4,none⟩ v4 (u:=u4) (by rw[World.cell?_setCell_other _ _ _ _ (by simp),World.cell?_setCell_other _ _ _ _ (by simp),World.cell?_setCell_other _ _ _ _ (by simp),World.cell?_setCell_other _ _ _ _ (by simp)];exact c4)
 refine⟨⟨?_,?_,?_,?_,?_⟩,fun j=>?_⟩
 ·rw[e0 _ _ _ (by simpa using h),World.cell?_setCell_other _ _ _ _ (by simp),World.cell?_setCell_other _ _ _ _ (by simp),World.cell?_setCell_other _ _ _ _ (by simp),World.cell?_setCell_other _ _ _ _ (by simp)];exact k0
 ·rw[e0 _ _ _ (by simpa using h),World.cell?_setCell_other _ _ _ _ (by simp),World.cell?_setCell_other _ _ _ _ (by simp),World.cell?_setCell_other _ _ _ _ (by simp)];exact k1
 ·rw[e0 _ _ _ (by simpa using h),World.cell?_setCell_other _ _ _ _ (by simp),World.cell?_setCell_other _ _ _ _ (by simp)];exact k2
 ·rw[e0 _ _ _ (by simpa using h),World.cell?_setCell_other _ _ _ _ (by simp)];exact k3
 ·rw[e0 _ _ _ (by simpa using h)];exact k4
 ·rw[e1 _ _ _ (by simpa using h)]
  simp only[World.frozen?_setCell]
  exact hf j)
theorem zoo (b1 o1 c1 b2 o2 c2 nx ny:Nat) (w:World) (x1 x0 y1 y0 a0 d0 n m:Nat) (X Y:Nat) (hnx:nx=m+2) (hny:ny=m+2) (hm:m<268435456)
   (k1:w.cell? ⟨b1,o1+(m+1),none⟩=some (.int .u64 (x1:Int))) (k0:w.cell? ⟨b1,o1+m,none⟩=some (.int .u64 (x0:Int))) (l1:ny=m+2→w.cell? ⟨b2,o2+(m+1),none⟩=some (.int .u64 (y1:Int))) (l0:w.cell? ⟨b2,o2+m,none⟩=some (.int .u64 (y0:Int)))
   (hx1:0<x1) (hx1B:x1 < 18446744073709551616) (hx0B:x0 < 18446744073709551616) (_hy1B:y1 < 18446744073709551616) (hy0B:y0 < 18446744073709551616) (hn:n≤63) (hlz:Hid (lz x1=n)) (ha:Hid (a0=x1*2^n+x0/2^(64-n))) (hd:Hid (d0=(if ny=m+2 then y1*2^n else 0)+y0/2^(64-n))) (hxs:x1*2^n < 18446744073709551616) (hys:ny=m+2→y1*2^n < 18446744073709551616) (haB:a0 < 18446744073709551616) (hdB:d0 < 18446744073709551616) (hda:d0≤a0)
   (hfin:Hid (∀ a b xx xy yx yy back,Lst a0 d0 a b xx xy yx yy back→zab X Y xx xy yx yy back)) (hc1:nx≤c1) (hc2:ny≤c2) :
   Calls prog 239 #[.slice (some ⟨b1,o1,none⟩) nx c1,.slice (some ⟨b2,o2,none⟩) ny c2] w fun e w'=>∃ (xx xy yx yy:Nat) (back:Bool),e=.returned (.agg #[.int .u64 (xx:Int),.int .u64 (xy:Int),.int .u64 (yx:Int),.int .u64 (yy:Int),.bool back])∧xx < 18446744073709551616∧xy < 18446744073709551616∧yx < 18446744073709551616∧yy < 18446744073709551616∧zab X Y xx xy yx yy back∧But [] w w':=by(
 subst hnx
 have hb1:b1<w.heap.size:=ai k1
 have hb2:b2<w.heap.size:=ai l0
 have LZ:=af (fun W=>zev x1 hx1 hx1B W)
 rw[ae hlz] at LZ
 have E1:bits .or .u64 (IntKind.u64.wrap ((x1:Int)*2^n)) ((x0:Int)/2^(64-n))=(a0:Int):=by
  have e1:IntKind.u64.wrap ((x1:Int)*2^n)=((x1*2^n:Nat):Int):=by
   have e:(x1:Int)*2^n=((x1*2^n:Nat):Int):=by simp
   rw[e,IntKind.wrap_u64];omega
  have e2:(x0:Int)/2^(64-n)=((x0/2^(64-n):Nat):Int):=by simp
  rw[e1,e2,bits_or_u64_nat _ _ hxs (Nat.lt_of_le_of_lt (Nat.div_le_self _ _) hx0B),(zqu x1 x0 n hn hx0B).1,ae ha]
 have hl0:Hid (Lst a0 d0 a0 d0 1 0 0 1 false):=⟨Leh.start a0 d0,hda,.inl ⟨rfl,rfl,rfl,rfl⟩⟩
 obtain⟨z0,hz0⟩:∃ z0,z0=y0/2^(64-n):=⟨_,rfl⟩
 have E2:(y0:Int)/2^(64-n)=(z0:Int):=by rw[hz0];simp
 subst hny
 have l1':=l1 rfl
 have E3:bits .or .u64 (z0:Int) (IntKind.u64.wrap ((y1:Int)*2^n))=(d0:Int):=by
  have hy:=hys rfl
  have e1:IntKind.u64.wrap ((y1:Int)*2^n)=((y1*2^n:Nat):Int):=by
   have e:(y1:Int)*2^n=((y1*2^n:Nat):Int):=by simp
   rw[e,IntKind.wrap_u64];omega
  rw[e1,hz0,bits_or_u64_nat _ _ (Nat.lt_of_le_of_lt (Nat.div_le_self _ _) hy0B) hy,Nat.or_comm,(zqu y1 y0 n hn hy0B).1,ae hd,if_pos rfl]
 clear hz0 l1 hys hd ha hlz
 go_enter func239,ntmps239
 go_wp2_with fail
 refine (ae LZ _).mono ?_
 rintro e w1 ⟨rfl,hw⟩
 obtain rfl:=hw.symm
 clear hw
 go_wp2_with fail
 obtain⟨W,hW⟩:∃ W,W=w.alloc (.cells #[.int .u64 0,.int .u64 0,.int .u64 0,.int .u64 0,.bool false] 276):=⟨_,rfl⟩
 have HB:Hid (But [] w W):=by show But _ _ _;rw[hW];exact (But.refl _ _).alloc _
 have q1:=(ae HB).ag k1 (by simp)
 have q0:=(ae HB).ag k0 (by simp)
 have r1:=(ae HB).ag l1' (by simp)
 have r0:=(ae HB).ag l0 (by simp)
 have hG:Hid (w.heap.size<W.heap.size∧∀ j,W.frozen? ⟨w.heap.size,j,none⟩=false):=by rw[hW];exact⟨by simp,fun j=>by simp⟩
 have g0:W.cell? ⟨w.heap.size,0,none⟩=some (.int .u64 0):=by rw[hW];simp
 have g1:W.cell? ⟨w.heap.size,1,none⟩=some (.int .u64 0):=by rw[hW];simp
 have g2:W.cell? ⟨w.heap.size,2,none⟩=some (.int .u64 0):=by rw[hW];simp
 have g3:W.cell? ⟨w.heap.size,3,none⟩=some (.int .u64 0):=by rw[hW];simp
 have g4:W.cell? ⟨w.heap.size,4,none⟩=some (.bool false):=by rw[hW];simp
 rw[← hW]
 have HW:=af hW
 clear hW k1 k0 l1' l0
 generalize hgs:w.heap.size=gs at *
 have HGS:=af hgs
 clear hgs
 go_quiet (fail)
 obtain⟨V,hV⟩:∃ V,V=W.drewN nq:=⟨_,rfl⟩
 rw[← hV]
 have hVc:∀ p,V.cell? p=W.cell? p:=fun p=>by rw[hV];rfl
 have HBV:Hid (But [] w V):=by show But _ _ _;rw[hV];exact (ae HB).drewN nq
 have HGV:Hid (gs<V.heap.size∧∀ j,V.frozen? ⟨gs,j,none⟩=false):=by rw[hV];exact ae hG
 rw[← hVc] at q1 q0 r1 r0 g0 g1 g2 g3 g4
 clear hV hVc HB hG HW
 have hb1V:b1<V.heap.size:=ai q1
 have hb2V:b2<V.heap.size:=ai r0
 go_wp2
 have HBA:=(But.refl [] V).alloc (.cells #[.int .u64 1,.int .u64 0,.int .u64 0,.int .u64 1,.bool false] 276)
 have HZ1:V.heap.size<(V.alloc (.cells #[.int .u64 1,.int .u64 0,.int .u64 0,.int .u64 1,.bool false] 276)).heap.size:=by simp
 have HZ2:gs<(V.alloc (.cells #[.int .u64 1,.int .u64 0,.int .u64 0,.int .u64 1,.bool false] 276)).heap.size:=by have:=(ae HGV).1;simp;omega
 have HZ3:Hid ((V.alloc (.cells #[.int .u64 1,.int .u64 0,.int .u64 0,.int .u64 1,.bool false] 276)).cell? ⟨V.heap.size,0,none⟩=some (.int .u64 ((1:Nat):Int))∧(V.alloc (.cells #[.int .u64 1,.int .u64 0,.int .u64 0,.int .u64 1,.bool false] 276)).cell? ⟨V.heap.size,1,none⟩=some (.int .u64 ((0:Nat):Int))∧(V.alloc (.cells #[.int .u64 1,.int .u64 0,.int .u64 0,.int .u64 1,.bool false] 276)).cell? ⟨V.heap.size,2,none⟩=some (.int .u64 ((0:Nat):Int))∧(V.alloc (.cells #[.int .u64 1,.int .u64 0,.int .u64 0,.int .u64 1,.bool false] 276)).cell? ⟨V.heap.size,3,none⟩=some (.int .u64 ((1:Nat):Int))∧(V.alloc (.cells #[.int .u64 1,.int .u64 0,.int .u64 0,.int .u64 1,.bool false] 276)).cell? ⟨V.heap.size,4,none⟩=some (.bool false)):=by
  refine⟨?_,?_,?_,?_,?_⟩ <;> simp
 have HZ4:Hid (∀ j,(V.alloc (.cells #[.int .u64 1,.int .u64 0,.int .u64 0,.int .u64 1,.bool false] 276)).frozen? ⟨V.heap.size,j,none⟩=false):=fun j=>by simp
 have hgne:gs≠V.heap.size:=by have:=(ae HGV).1;omega
 generalize hgz:V.heap.size=gz at *
 have HGZ:Hid (V.heap.size≤gz):=Nat.le_of_eq hgz
 clear hgz
 go_loopw [7,8] (fun pa pb wr=>∃ (a b xx xy yx yy:Nat) (back:Bool),pa=.int .u64 a∧pb=.int .u64 b∧a < 18446744073709551616∧b < 18446744073709551616∧xx < 18446744073709551616∧xy < 18446744073709551616∧yx < 18446744073709551616∧yy < 18446744073709551616∧Hid (Lst a0 d0 a b xx xy yx yy back∧But [] V wr∧gz<wr.heap.size∧gs<wr.heap.size)∧Hid (wr.cell? ⟨gz,0,none⟩=some (.int .u64 (xx:Int))∧wr.cell? ⟨gz,1,none⟩=some (.int .u64 (xy:Int))∧wr.cell? ⟨gz,2,none⟩=some (.int .u64 (yx:Int))∧wr.cell? ⟨gz,3,none⟩=some (.int .u64 (yy:Int))∧wr.cell? ⟨gz,4,none⟩=some (.bool back))∧Hid (∀ j,wr.frozen? ⟨gz,j,none⟩=false)) (fun _ pb _=>(intOf pb).toNat)
 case atStart=>exact⟨a0,d0,1,0,0,1,false,rfl,rfl,haB,hdB,by omega,by omega,by omega,by omega,⟨ae hl0,HBA,HZ1,HZ2⟩,HZ3,HZ4⟩
 case round =>(
 clear HZ3 HZ4 HZ1 HZ2 HBA hl0
 obtain⟨a,b,xx,xy,yx,yy,back,rfl,rfl,haB',hbB,hB1,hB2,hB3,hB4,HI,HC,HF⟩:=hrel
 rename World=>wr
 obtain⟨c0,c1',c2',c3,c4⟩:=ae HC
 have hzs:=(ae HI).2.2.1
 have hss:=(ae HI).2.2.2
 have s0:=(ae HI).2.1.ag g0 (by simp)
 have s1:=(ae HI).2.1.ag g1 (by simp)
 have s2:=(ae HI).2.1.ag g2 (by simp)
 have s3:=(ae HI).2.1.ag g3 (by simp)
 have s4:=(ae HI).2.1.ag g4 (by simp)
 have f9:=ae HF
 have hgV:gs<V.heap.size:=ai g0
 have fs:∀ j,wr.frozen? ⟨gs,j,none⟩=false:=fun j=>((ae HI).2.1.frozen (p:=⟨gs,j,none⟩) hgV (by simp)).trans ((ae HGV).2 j)
 clear HC HF g0 g1 g2 g3 g4 q1 q0 r1 r0
 by_cases hb0:b=0
 ·(
 subst hb0
 go_wp2
 refine bodyPost_ret (v:=.agg #[.int .u64 (xx:Int),.int .u64 (xy:Int),.int .u64 (yx:Int),.int .u64 (yy:Int),.bool back]) (by simp[results,results239,go_sem,s0,s1,s2,s3,s4]) rfl ⟨xx,xy,yx,yy,back,rfl,hB1,hB2,hB3,hB4,ae hfin _ _ _ _ _ _ _ (ae HI).1,?_⟩
 have hge:w.heap.size≤gs:=Nat.le_of_eq (ae HGS)
 exact ((((((ae HBV).trans' (ae HI).2.1).setCell (.inr hge) _).setCell (.inr hge) _).setCell (.inr hge) _).setCell (.inr hge) _).setCell (.inr hge) _)
 ·(
 have hbz:((b:Int)==0)=false:=beq_eq_false_iff_ne.2 (by omega)
 have hbn:((b:Int) != 0)=true:=by simp;omega
 obtain⟨q,hq⟩:∃ q,a/b=q:=⟨_,rfl⟩
 obtain⟨b',hb'⟩:∃ b',a%b=b':=⟨_,rfl⟩
 have hdm:=Nat.div_add_mod a b
 rw[hq,hb',Nat.mul_comm] at hdm
 have hlt:b' < b:=by rw[← hb'];exact Nat.mod_lt _ (by omega)
 have E5:(a:Int)/(b:Int)=(q:Int):=by rw[← hq,Int.natCast_ediv]
 have E6:(a:Int).tdiv (b:Int)=(q:Int):=by rw[Int.tdiv_eq_ediv_of_nonneg (by omega)];exact E5
 have hqa:q≤a:=by rw[← hq];exact Nat.div_le_self _ _
 have hqb:q*b≤a:=by omega
 have E7:IntKind.u64.wrap (q:Int)=(q:Int):=by rw[IntKind.wrap_u64];omega
 obtain⟨nl,-,-⟩:=(ae HI).1.next q b' hdm.symm hlt
 have hbd:=nl.bound (by omega)
 obtain⟨n2,hn2⟩:∃ n2,xx+q*yx=n2:=⟨_,rfl⟩
 obtain⟨n3,hn3⟩:∃ n3,xy+q*yy=n3:=⟨_,rfl⟩
 rw[hn2,hn3] at hbd
 have hn2B:n2 < 18446744073709551616:=by omega
 have hn3B:n3 < 18446744073709551616:=by omega
 have hm2:q*yx≤n2:=by omega
 have hm3:q*yy≤n3:=by omega
 have E8:(xx:Int)+(q:Int)*(yx:Int)=(n2:Int):=by rw[← hn2];simp
 have E9:(xy:Int)+(q:Int)*(yy:Int)=(n3:Int):=by rw[← hn3];simp
 have E10:(a:Int)-(q:Int)*(b:Int)=(b':Int):=by rw[← Int.natCast_mul];omega
 have NX:=af (fun c1 c2=>(ae HI).1.taken q b' hdm.symm hlt (by rw[hn3];exact c1) (by rw[hn3];exact c2))
 rw[hn2,hn3] at NX
 have hn3p:0<n3:=by
  have h1:=(ae HI).1.yy
  have h2:=(ae HI).1.2.1
  have h3:0<q:=by
   rcases Nat.eq_zero_or_pos q with h | h
   ·subst h;omega
   ·exact h
  have:=Nat.mul_pos h3 h1
  omega
 have BD:=af (fun (hb:0<b')=>by have:=nl.qcw (by omega) hb;rw[hn3] at this;exact this)
 clear hdm hq hb' hbd nl hn2 hn3
 by_cases hc1:b' < n3
 ·go_wp2
  refine bodyPost_ret (v:=.agg #[.int .u64 (xx:Int),.int .u64 (xy:Int),.int .u64 (yx:Int),.int .u64 (yy:Int),.bool back]) (by simp[results,results239,go_sem,s0,s1,s2,s3,s4,hss]) rfl ⟨xx,xy,yx,yy,back,rfl,hB1,hB2,hB3,hB4,ae hfin _ _ _ _ _ _ _ (ae HI).1,?_⟩
  have hge:w.heap.size≤gs:=Nat.le_of_eq (ae HGS)
  exact (((((((ae HBV).trans' (ae HI).2.1).setCell (.inr hge) _).setCell (.inr hge) _).setCell (.inr hge) _).setCell (.inr hge) _).setCell (.inr hge) _).alloc _
 ·(
 have hc1':n3≤b':=by omega
 have hsB:yy+n3≤a0:=ae BD (by omega)
 by_cases hc2:b-b' < yy+n3
 ·(
 have hc2':(b:Int)-(b':Int)<(yy:Int)+(n3:Int):=by omega
 go_wp2
 refine bodyPost_ret (v:=.agg #[.int .u64 (xx:Int),.int .u64 (xy:Int),.int .u64 (yx:Int),.int .u64 (yy:Int),.bool back]) (by simp[results,results239,go_sem,s0,s1,s2,s3,s4,hss]) rfl ⟨xx,xy,yx,yy,back,rfl,hB1,hB2,hB3,hB4,ae hfin _ _ _ _ _ _ _ (ae HI).1,?_⟩
 have hge:w.heap.size≤gs:=Nat.le_of_eq (ae HGS)
 exact (((((((ae HBV).trans' (ae HI).2.1).setCell (.inr hge) _).setCell (.inr hge) _).setCell (.inr hge) _).setCell (.inr hge) _).setCell (.inr hge) _).alloc _)
 ·(
 have hc2':¬ ((b:Int)-(b':Int)<(yy:Int)+(n3:Int)):=by omega
 have HN:=af (ae NX hc1' (by omega))
 go_wp2
 refine⟨⟨b,b',yx,yy,n2,n3,!back,rfl,rfl,hbB,by omega,hB3,hB4,hn2B,hn3B,⟨ae HN,?_,?_,?_⟩,?_,?_⟩,?_⟩
 ·exact ((((((ae HI).2.1.setCell (.inr (ae HGZ)) _).setCell (.inr (ae HGZ)) _).setCell (.inr (ae HGZ)) _).setCell (.inr (ae HGZ)) _).setCell (.inr (ae HGZ)) _).alloc _
 ·simp;omega
 ·simp;omega
 ·exact (zdy wr gz _ _ _ _ _ _ _ _ _ _ _ _ hzs c0 c1' c2' c3 c4 f9).1
 ·exact (zdy wr gz _ _ _ _ _ _ _ _ _ _ _ _ hzs c0 c1' c2' c3 c4 f9).2
 ·simp[intOf];omega)))))
theorem zop (b1 o1 c1 b2 o2 c2 nx ny:Nat) (w:World) (x1 x0 y1 y0 a0 d0 n m:Nat) (X Y:Nat) (hnx:nx=m+2) (hny:ny=m+1) (hm:m<268435456)
   (k1:w.cell? ⟨b1,o1+(m+1),none⟩=some (.int .u64 (x1:Int))) (k0:w.cell? ⟨b1,o1+m,none⟩=some (.int .u64 (x0:Int))) (l1:ny=m+2→w.cell? ⟨b2,o2+(m+1),none⟩=some (.int .u64 (y1:Int))) (l0:w.cell? ⟨b2,o2+m,none⟩=some (.int .u64 (y0:Int)))
   (hx1:0<x1) (hx1B:x1 < 18446744073709551616) (hx0B:x0 < 18446744073709551616) (_hy1B:y1 < 18446744073709551616) (_hy0B:y0 < 18446744073709551616) (hn:n≤63) (hlz:Hid (lz x1=n)) (ha:Hid (a0=x1*2^n+x0/2^(64-n))) (hd:Hid (d0=(if ny=m+2 then y1*2^n else 0)+y0/2^(64-n))) (hxs:x1*2^n < 18446744073709551616) (hys:ny=m+2→y1*2^n < 18446744073709551616) (haB:a0 < 18446744073709551616) (hdB:d0 < 18446744073709551616) (hda:d0≤a0)
   (hfin:Hid (∀ a b xx xy yx yy back,Lst a0 d0 a b xx xy yx yy back→zab X Y xx xy yx yy back)) (hc1:nx≤c1) (hc2:ny≤c2) :
   Calls prog 239 #[.slice (some ⟨b1,o1,none⟩) nx c1,.slice (some ⟨b2,o2,none⟩) ny c2] w fun e w'=>∃ (xx xy yx yy:Nat) (back:Bool),e=.returned (.agg #[.int .u64 (xx:Int),.int .u64 (xy:Int),.int .u64 (yx:Int),.int .u64 (yy:Int),.bool back])∧xx < 18446744073709551616∧xy < 18446744073709551616∧yx < 18446744073709551616∧yy < 18446744073709551616∧zab X Y xx xy yx yy back∧But [] w w':=by(
 subst hnx
 have hb1:b1<w.heap.size:=ai k1
 have hb2:b2<w.heap.size:=ai l0
 have LZ:=af (fun W=>zev x1 hx1 hx1B W)
 rw[ae hlz] at LZ
 have E1:bits .or .u64 (IntKind.u64.wrap ((x1:Int)*2^n)) ((x0:Int)/2^(64-n))=(a0:Int):=by
  have e1:IntKind.u64.wrap ((x1:Int)*2^n)=((x1*2^n:Nat):Int):=by
   have e:(x1:Int)*2^n=((x1*2^n:Nat):Int):=by simp
   rw[e,IntKind.wrap_u64];omega
  have e2:(x0:Int)/2^(64-n)=((x0/2^(64-n):Nat):Int):=by simp
  rw[e1,e2,bits_or_u64_nat _ _ hxs (Nat.lt_of_le_of_lt (Nat.div_le_self _ _) hx0B),(zqu x1 x0 n hn hx0B).1,ae ha]
 have hl0:Hid (Lst a0 d0 a0 d0 1 0 0 1 false):=⟨Leh.start a0 d0,hda,.inl ⟨rfl,rfl,rfl,rfl⟩⟩
 obtain⟨z0,hz0⟩:∃ z0,z0=y0/2^(64-n):=⟨_,rfl⟩
 have E2:(y0:Int)/2^(64-n)=(z0:Int):=by rw[hz0];simp
 subst hny
 have ed:d0=z0:=by rw[hz0,ae hd,if_neg (by omega),Nat.zero_add]
 subst ed
 have nn:(((m:Int)+1)==((m:Int)+2))=false:=beq_eq_false_iff_ne.2 (by omega)
 clear hz0 l1 hys hd ha hlz
 go_enter func239,ntmps239
 go_wp2_with fail
 refine (ae LZ _).mono ?_
 rintro e w1 ⟨rfl,hw⟩
 obtain rfl:=hw.symm
 clear hw
 go_wp2_with fail
 obtain⟨W,hW⟩:∃ W,W=w.alloc (.cells #[.int .u64 0,.int .u64 0,.int .u64 0,.int .u64 0,.bool false] 276):=⟨_,rfl⟩
 have HB:Hid (But [] w W):=by show But _ _ _;rw[hW];exact (But.refl _ _).alloc _
 have q1:=(ae HB).ag k1 (by simp)
 have q0:=(ae HB).ag k0 (by simp)
 have r0:=(ae HB).ag l0 (by simp)
 have hG:Hid (w.heap.size<W.heap.size∧∀ j,W.frozen? ⟨w.heap.size,j,none⟩=false):=by rw[hW];exact⟨by simp,fun j=>by simp⟩
 have g0:W.cell? ⟨w.heap.size,0,none⟩=some (.int .u64 0):=by rw[hW];simp
 have g1:W.cell? ⟨w.heap.size,1,none⟩=some (.int .u64 0):=by rw[hW];simp
 have g2:W.cell? ⟨w.heap.size,2,none⟩=some (.int .u64 0):=by rw[hW];simp
 have g3:W.cell? ⟨w.heap.size,3,none⟩=some (.int .u64 0):=by rw[hW];simp
 have g4:W.cell? ⟨w.heap.size,4,none⟩=some (.bool false):=by rw[hW];simp
 rw[← hW]
 have HW:=af hW
 clear hW k1 k0 l0
 generalize hgs:w.heap.size=gs at *
 have HGS:=af hgs
 clear hgs
 go_quiet (fail)
 obtain⟨V,hV⟩:∃ V,V=W.drewN nq:=⟨_,rfl⟩
 rw[← hV]
 have hVc:∀ p,V.cell? p=W.cell? p:=fun p=>by rw[hV];rfl
 have HBV:Hid (But [] w V):=by show But _ _ _;rw[hV];exact (ae HB).drewN nq
 have HGV:Hid (gs<V.heap.size∧∀ j,V.frozen? ⟨gs,j,none⟩=false):=by rw[hV];exact ae hG
 rw[← hVc] at q1 q0 r0 g0 g1 g2 g3 g4
 clear hV hVc HB hG HW
 have hb1V:b1<V.heap.size:=ai q1
 have hb2V:b2<V.heap.size:=ai r0
 go_wp2
 have HBA:=(But.refl [] V).alloc (.cells #[.int .u64 1,.int .u64 0,.int .u64 0,.int .u64 1,.bool false] 276)
 have HZ1:V.heap.size<(V.alloc (.cells #[.int .u64 1,.int .u64 0,.int .u64 0,.int .u64 1,.bool false] 276)).heap.size:=by simp
 have HZ2:gs<(V.alloc (.cells #[.int .u64 1,.int .u64 0,.int .u64 0,.int .u64 1,.bool false] 276)).heap.size:=by have:=(ae HGV).1;simp;omega
 have HZ3:Hid ((V.alloc (.cells #[.int .u64 1,.int .u64 0,.int .u64 0,.int .u64 1,.bool false] 276)).cell? ⟨V.heap.size,0,none⟩=some (.int .u64 ((1:Nat):Int))∧(V.alloc (.cells #[.int .u64 1,.int .u64 0,.int .u64 0,.int .u64 1,.bool false] 276)).cell? ⟨V.heap.size,1,none⟩=some (.int .u64 ((0:Nat):Int))∧(V.alloc (.cells #[.int .u64 1,.int .u64 0,.int .u64 0,.int .u64 1,.bool false] 276)).cell? ⟨V.heap.size,2,none⟩=some (.int .u64 ((0:Nat):Int))∧(V.alloc (.cells #[.int .u64 1,.int .u64 0,.int .u64 0,.int .u64 1,.bool false] 276)).cell? ⟨V.heap.size,3,none⟩=some (.int .u64 ((1:Nat):Int))∧(V.alloc (.cells #[.int .u64 1,.int .u64 0,.int .u64 0,.int .u64 1,.bool false] 276)).cell? ⟨V.heap.size,4,none⟩=some (.bool false)):=by
  refine⟨?_,?_,?_,?_,?_⟩ <;> simp
 have HZ4:Hid (∀ j,(V.alloc (.cells #[.int .u64 1,.int .u64 0,.int .u64 0,.int .u64 1,.bool false] 276)).frozen? ⟨V.heap.size,j,none⟩=false):=fun j=>by simp
 have hgne:gs≠V.heap.size:=by have:=(ae HGV).1;omega
 generalize hgz:V.heap.size=gz at *
 have HGZ:Hid (V.heap.size≤gz):=Nat.le_of_eq hgz
 clear hgz
 go_loopw [7,8] (fun pa pb wr=>∃ (a b xx xy yx yy:Nat) (back:Bool),pa=.int .u64 a∧pb=.int .u64 b∧a < 18446744073709551616∧b < 18446744073709551616∧xx < 18446744073709551616∧xy < 18446744073709551616∧yx < 18446744073709551616∧yy < 18446744073709551616∧Hid (Lst a0 d0 a b xx xy yx yy back∧But [] V wr∧gz<wr.heap.size∧gs<wr.heap.size)∧Hid (wr.cell? ⟨gz,0,none⟩=some (.int .u64 (xx:Int))∧wr.cell? ⟨gz,1,none⟩=some (.int .u64 (xy:Int))∧wr.cell? ⟨gz,2,none⟩=some (.int .u64 (yx:Int))∧wr.cell? ⟨gz,3,none⟩=some (.int .u64 (yy:Int))∧wr.cell? ⟨gz,4,none⟩=some (.bool back))∧Hid (∀ j,wr.frozen? ⟨gz,j,none⟩=false)) (fun _ pb _=>(intOf pb).toNat)
 case atStart=>exact⟨a0,d0,1,0,0,1,false,rfl,rfl,haB,hdB,by omega,by omega,by omega,by omega,⟨ae hl0,HBA,HZ1,HZ2⟩,HZ3,HZ4⟩
 case round =>(
 clear HZ3 HZ4 HZ1 HZ2 HBA hl0
 obtain⟨a,b,xx,xy,yx,yy,back,rfl,rfl,haB',hbB,hB1,hB2,hB3,hB4,HI,HC,HF⟩:=hrel
 rename World=>wr
 obtain⟨c0,c1',c2',c3,c4⟩:=ae HC
 have hzs:=(ae HI).2.2.1
 have hss:=(ae HI).2.2.2
 have s0:=(ae HI).2.1.ag g0 (by simp)
 have s1:=(ae HI).2.1.ag g1 (by simp)
 have s2:=(ae HI).2.1.ag g2 (by simp)
 have s3:=(ae HI).2.1.ag g3 (by simp)
 have s4:=(ae HI).2.1.ag g4 (by simp)
 have f9:=ae HF
 have hgV:gs<V.heap.size:=ai g0
 have fs:∀ j,wr.frozen? ⟨gs,j,none⟩=false:=fun j=>((ae HI).2.1.frozen (p:=⟨gs,j,none⟩) hgV (by simp)).trans ((ae HGV).2 j)
 clear HC HF g0 g1 g2 g3 g4 q1 q0 r0
 by_cases hb0:b=0
 ·(
 subst hb0
 go_wp2
 refine bodyPost_ret (v:=.agg #[.int .u64 (xx:Int),.int .u64 (xy:Int),.int .u64 (yx:Int),.int .u64 (yy:Int),.bool back]) (by simp[results,results239,go_sem,s0,s1,s2,s3,s4]) rfl ⟨xx,xy,yx,yy,back,rfl,hB1,hB2,hB3,hB4,ae hfin _ _ _ _ _ _ _ (ae HI).1,?_⟩
 have hge:w.heap.size≤gs:=Nat.le_of_eq (ae HGS)
 exact ((((((ae HBV).trans' (ae HI).2.1).setCell (.inr hge) _).setCell (.inr hge) _).setCell (.inr hge) _).setCell (.inr hge) _).setCell (.inr hge) _)
 ·(
 have hbz:((b:Int)==0)=false:=beq_eq_false_iff_ne.2 (by omega)
 have hbn:((b:Int) != 0)=true:=by simp;omega
 obtain⟨q,hq⟩:∃ q,a/b=q:=⟨_,rfl⟩
 obtain⟨b',hb'⟩:∃ b',a%b=b':=⟨_,rfl⟩
 have hdm:=Nat.div_add_mod a b
 rw[hq,hb',Nat.mul_comm] at hdm
 have hlt:b' < b:=by rw[← hb'];exact Nat.mod_lt _ (by omega)
 have E5:(a:Int)/(b:Int)=(q:Int):=by rw[← hq,Int.natCast_ediv]
 have E6:(a:Int).tdiv (b:Int)=(q:Int):=by rw[Int.tdiv_eq_ediv_of_nonneg (by omega)];exact E5
 have hqa:q≤a:=by rw[← hq];exact Nat.div_le_self _ _
 have hqb:q*b≤a:=by omega
 have E7:IntKind.u64.wrap (q:Int)=(q:Int):=by rw[IntKind.wrap_u64];omega
 obtain⟨nl,-,-⟩:=(ae HI).1.next q b' hdm.symm hlt
 have hbd:=nl.bound (by omega)
 obtain⟨n2,hn2⟩:∃ n2,xx+q*yx=n2:=⟨_,rfl⟩
 obtain⟨n3,hn3⟩:∃ n3,xy+q*yy=n3:=⟨_,rfl⟩
 rw[hn2,hn3] at hbd
 have hn2B:n2 < 18446744073709551616:=by omega
 have hn3B:n3 < 18446744073709551616:=by omega
 have hm2:q*yx≤n2:=by omega
 have hm3:q*yy≤n3:=by omega
 have E8:(xx:Int)+(q:Int)*(yx:Int)=(n2:Int):=by rw[← hn2];simp
 have E9:(xy:Int)+(q:Int)*(yy:Int)=(n3:Int):=by rw[← hn3];simp
 have E10:(a:Int)-(q:Int)*(b:Int)=(b':Int):=by rw[← Int.natCast_mul];omega
 have NX:=af (fun c1 c2=>(ae HI).1.taken q b' hdm.symm hlt (by rw[hn3];exact c1) (by rw[hn3];exact c2))
 rw[hn2,hn3] at NX
 have hn3p:0<n3:=by
  have h1:=(ae HI).1.yy
  have h2:=(ae HI).1.2.1
  have h3:0<q:=by
   rcases Nat.eq_zero_or_pos q with h | h
   ·subst h;omega
   ·exact h
  have:=Nat.mul_pos h3 h1
  omega
 have BD:=af (fun (hb:0<b')=>by have:=nl.qcw (by omega) hb;rw[hn3] at this;exact this)
 clear hdm hq hb' hbd nl hn2 hn3
 by_cases hc1:b' < n3
 ·go_wp2
  refine bodyPost_ret (v:=.agg #[.int .u64 (xx:Int),.int .u64 (xy:Int),.int .u64 (yx:Int),.int .u64 (yy:Int),.bool back]) (by simp[results,results239,go_sem,s0,s1,s2,s3,s4,hss]) rfl ⟨xx,xy,yx,yy,back,rfl,hB1,hB2,hB3,hB4,ae hfin _ _ _ _ _ _ _ (ae HI).1,?_⟩
  have hge:w.heap.size≤gs:=Nat.le_of_eq (ae HGS)
  exact (((((((ae HBV).trans' (ae HI).2.1).setCell (.inr hge) _).setCell (.inr hge) _).setCell (.inr hge) _).setCell (.inr hge) _).setCell (.inr hge) _).alloc _
 ·(
 have hc1':n3≤b':=by omega
 have hsB:yy+n3≤a0:=ae BD (by omega)
 by_cases hc2:b-b' < yy+n3
 ·(
 have hc2':(b:Int)-(b':Int)<(yy:Int)+(n3:Int):=by omega
 go_wp2
 refine bodyPost_ret (v:=.agg #[.int .u64 (xx:Int),.int .u64 (xy:Int),.int .u64 (yx:Int),.int .u64 (yy:Int),.bool back]) (by simp[results,results239,go_sem,s0,s1,s2,s3,s4,hss]) rfl ⟨xx,xy,yx,yy,back,rfl,hB1,hB2,hB3,hB4,ae hfin _ _ _ _ _ _ _ (ae HI).1,?_⟩
 have hge:w.heap.size≤gs:=Nat.le_of_eq (ae HGS)
 exact (((((((ae HBV).trans' (ae HI).2.1).setCell (.inr hge) _).setCell (.inr hge) _).setCell (.inr hge) _).setCell (.inr hge) _).setCell (.inr hge) _).alloc _)
 ·(
 have hc2':¬ ((b:Int)-(b':Int)<(yy:Int)+(n3:Int)):=by omega
 have HN:=af (ae NX hc1' (by omega))
 go_wp2
 refine⟨⟨b,b',yx,yy,n2,n3,!back,rfl,rfl,hbB,by omega,hB3,hB4,hn2B,hn3B,⟨ae HN,?_,?_,?_⟩,?_,?_⟩,?_⟩
 ·exact ((((((ae HI).2.1.setCell (.inr (ae HGZ)) _).setCell (.inr (ae HGZ)) _).setCell (.inr (ae HGZ)) _).setCell (.inr (ae HGZ)) _).setCell (.inr (ae HGZ)) _).alloc _
 ·simp;omega
 ·simp;omega
 ·exact (zdy wr gz _ _ _ _ _ _ _ _ _ _ _ _ hzs c0 c1' c2' c3 c4 f9).1
 ·exact (zdy wr gz _ _ _ _ _ _ _ _ _ _ _ _ hzs c0 c1' c2' c3 c4 f9).2
 ·simp[intOf];omega)))))
theorem zwh (X m:Nat) (h:(wd 18446744073709551616 X).length=m+2):X=vl 18446744073709551616 ((wd 18446744073709551616 X).take m) + 18446744073709551616^m*((wd 18446744073709551616 X)[m]?.getD 0 + 18446744073709551616*(wd 18446744073709551616 X)[m+1]?.getD 0):=by(
 have e:=zac 18446744073709551616 (wd 18446744073709551616 X) m (by omega)
 rw[drop_one _ (m+1) (by omega),ztk,ja (by omega)] at e
 exact e)
theorem qej (X m:Nat) (h:(wd 18446744073709551616 X).length=m+1):X=vl 18446744073709551616 ((wd 18446744073709551616 X).take m) + 18446744073709551616^m*((wd 18446744073709551616 X)[m]?.getD 0 + 18446744073709551616*0):=by(
 have e:=zac 18446744073709551616 (wd 18446744073709551616 X) m (by omega)
 rw[List.drop_eq_nil_of_le (by omega),vl,ja (by omega)] at e
 exact e)
theorem qdq (x1 x0 n:Nat) (hn:n≤63) (hx0:x0 < 18446744073709551616) (h:x1*2^n < 18446744073709551616):x1*2^n+x0/2^(64-n) < 18446744073709551616:=by(
 have hp:18446744073709551616=2^(64-n)*2^n:=by rw[← Nat.pow_add,show (64-n)+n=64 from by omega]
 have h5:(x1+1)*2^n≤18446744073709551616:=by
  rw[hp] at h ⊢
  exact Nat.mul_le_mul_right _ (Nat.lt_of_mul_lt_mul_right h)
 rw[Nat.add_mul,Nat.one_mul] at h5
 have:=(zqu x1 x0 n hn hx0).2
 generalize x0/2^(64-n)=z at *
 generalize x1*2^n=y at *
 generalize 2^n=P at *
 omega)
theorem kw.fin' {ps qs ps' qs':List Nat} {c1 c2 c3 c4 n up dn lf rt bo ow:Nat} (h:kw ps qs ps' qs' c1 c2 c3 c4 n up dn lf rt bo ow) (hn:ps.length=n) (hl:ps.length=qs.length) (P' Q' X Y hp hq:Nat)
  (eP:P'=vl 18446744073709551616 ps + 18446744073709551616^n*hp) (eQ:Q'=vl 18446744073709551616 qs + 18446744073709551616^n*hq) (eX:X+c2*Q'=c1*P') (eY:Y+c3*P'=c4*Q') (hX:X < 18446744073709551616^n) (hY:Y < 18446744073709551616^n):vl 18446744073709551616 ps'=X∧vl 18446744073709551616 qs'=Y:=by
 subst hn
 exact h.fin hl P' Q' X Y hp hq eP eQ eX eY hX hY
theorem zqs (vx vy:Value) (X Y:Nat) (w:World) (hx:Sl .u64 w vx (wd 18446744073709551616 X)) (hy:Sl .u64 w vy (wd 18446744073709551616 Y)) (h2:2≤(wd 18446744073709551616 Y).length) (hn:(wd 18446744073709551616 X).length<(wd 18446744073709551616 Y).length+2) (hle:Y≤X) (hl:(wd 18446744073709551616 X).length<268435456) :
   Calls prog 239 #[vx,vy] w fun e w'=>∃ (xx xy yx yy:Nat) (back:Bool),e=.returned (.agg #[.int .u64 (xx:Int),.int .u64 (xy:Int),.int .u64 (yx:Int),.int .u64 (yy:Int),.bool back])∧xx < 18446744073709551616∧xy < 18446744073709551616∧yx < 18446744073709551616∧yy < 18446744073709551616∧zab X Y xx xy yx yy back∧But [] w w':=by(
 have hlen:=aw hle
 rcases hx.open with ⟨e,-⟩|⟨-,b1,o1,c1,rfl,hc1,-,hcx⟩
 ·rw[e,List.length_nil] at hlen;omega
 rcases hy.open with ⟨e,-⟩|⟨-,b2,o2,c2,rfl,hc2,-,hcy⟩
 ·rw[e] at h2;simp at h2
 obtain⟨m,hm⟩:∃ m,(wd 18446744073709551616 X).length=m+2:=⟨(wd 18446744073709551616 X).length-2,by omega⟩
 have hXp:0<X:=by
  rcases Nat.eq_zero_or_pos X with h | h
  ·subst h;rw[zq] at hm;simp at hm
  ·exact h
 obtain⟨t1,t2,-,-⟩:=zfe X hXp
 have ht:qh X=(wd 18446744073709551616 X)[m+1]?.getD 0:=by unfold qh;rw[hm];rfl
 obtain⟨z1,z2,-,-⟩:=zak (qh X) t1 t2
 have eX:=zwh X m hm
 have lX:=ui (wd 18446744073709551616 X) m (by omega) (zt (by omega) X)
 have mX:=zt (B:=18446744073709551616) (by omega) X
 have mY:=zt (B:=18446744073709551616) (by omega) Y
 have k1:=hcx (m+1) (by omega)
 have k0:=hcx m (by omega)
 have bx0:=cf mX (by omega:0 < 18446744073709551616) m
 rw[ht] at t1 t2 z1 z2
 obtain⟨ε,e1,e2⟩:=zgj ((wd 18446744073709551616 X)[m+1]?.getD 0) ((wd 18446744073709551616 X)[m]?.getD 0) m (lz ((wd 18446744073709551616 X)[m+1]?.getD 0)) _ z1 lX
 rw[← eX] at e1
 have haB:=qdq _ _ _ z1 bx0 z2
 rcases Nat.lt_or_ge (wd 18446744073709551616 Y).length (m+2) with hsh | hsh
 ·(
 have hny:(wd 18446744073709551616 Y).length=m+1:=by omega
 have eY:=qej Y m hny
 have lY:=ui (wd 18446744073709551616 Y) m (by omega) mY
 obtain⟨δ,f1,f2⟩:=zgj 0 ((wd 18446744073709551616 Y)[m]?.getD 0) m (lz ((wd 18446744073709551616 X)[m+1]?.getD 0)) _ z1 lY
 rw[← eY] at f1
 rw[Nat.zero_mul] at f1
 have hda:=zwt _ _ _ _ _ X Y e1 f1 e2 hle
 exact zop b1 o1 c1 b2 o2 c2 _ _ w ((wd 18446744073709551616 X)[m+1]?.getD 0) ((wd 18446744073709551616 X)[m]?.getD 0) 0 ((wd 18446744073709551616 Y)[m]?.getD 0) _ (0+(wd 18446744073709551616 Y)[m]?.getD 0/2^(64-lz ((wd 18446744073709551616 X)[m+1]?.getD 0))) (lz ((wd 18446744073709551616 X)[m+1]?.getD 0)) m X Y hm hny (by omega) k1 k0 (fun h=>by omega) (hcy m (by omega)) t1 t2 bx0 (by omega) (cf mY (by omega) m) z1 (by show _=_;rfl) (by show _=_;rfl) (by show _=_;rw[if_neg (by omega)]) z2 (fun h=>by omega) haB (Nat.lt_of_le_of_lt hda haB) hda (fun a b xx xy yx yy back h=>zab.of h X Y _ ε δ e1 f1 e2 f2) hc1 hc2)
 ·(
 have hny:(wd 18446744073709551616 Y).length=m+2:=by omega
 have eY:=zwh Y m hny
 have lY:=ui (wd 18446744073709551616 Y) m (by omega) mY
 obtain⟨δ,f1,f2⟩:=zgj ((wd 18446744073709551616 Y)[m+1]?.getD 0) ((wd 18446744073709551616 Y)[m]?.getD 0) m (lz ((wd 18446744073709551616 X)[m+1]?.getD 0)) _ z1 lY
 rw[← eY] at f1
 have hda:=zwt _ _ _ _ _ X Y e1 f1 e2 hle
 exact zoo b1 o1 c1 b2 o2 c2 _ _ w ((wd 18446744073709551616 X)[m+1]?.getD 0) ((wd 18446744073709551616 X)[m]?.getD 0) ((wd 18446744073709551616 Y)[m+1]?.getD 0) ((wd 18446744073709551616 Y)[m]?.getD 0) _ _ (lz ((wd 18446744073709551616 X)[m+1]?.getD 0)) m X Y hm hny (by omega) k1 k0 (fun _=>hcy (m+1) (by omega)) (hcy m (by omega)) t1 t2 bx0 (cf mY (by omega) _) (cf mY (by omega) m) z1 (by show _=_;rfl) (by show _=_;rfl) (by show _=_;rw[if_pos hny]) z2 (fun _=>Nat.lt_of_le_of_lt (Nat.le_trans (Nat.le_add_right _ _) hda) haB) haB (Nat.lt_of_le_of_lt hda haB) hda (fun a b xx xy yx yy back h=>zab.of h X Y _ ε δ e1 f1 e2 f2) hc1 hc2))
def Less (lo:Nat) (w:World) (X Y:Nat) (e:Ending) (w':World):Prop:=∃ v1 v2 X' Y',e=.returned (.tuple #[v1,v2])∧znf lo w' v1 v2 X' Y'∧Y'≤X'∧Y' < Y∧X'≤X∧Nat.gcd X' Y'=Nat.gcd X Y∧∃ l:List Nat,(∀ x ∈ l,lo≤x)∧But l w w'
theorem zpq (X Y:Nat):Nat.gcd Y (X%Y)=Nat.gcd X Y:=by rw[Nat.gcd_comm X Y,Nat.gcd_rec Y X,Nat.gcd_comm]
theorem zxp (lo:Nat) (vx vy:Value) (X Y xx xy yx yy:Nat) (back:Bool) (w:World) (hp:znf lo w vx vy X Y) (h2:2≤(wd 18446744073709551616 Y).length) (hle:Y≤X) (hl:(wd 18446744073709551616 X).length<1073741824) (hxx:xx < 18446744073709551616) (hxy:xy < 18446744073709551616) (hyx:yx < 18446744073709551616) (hyy:yy < 18446744073709551616) (hs:zab X Y xx xy yx yy back) (hne:xy≠0) :
   Calls prog 240 #[.agg #[.int .u64 (xx:Int),.int .u64 (xy:Int),.int .u64 (yx:Int),.int .u64 (yy:Int),.bool back],vx,vy] w fun e w'=>Less lo w X Y e w':=by(
 have hlen:=aw hle
 rcases hs with h0|⟨X',Y',hrel,hlt,hXY,hg⟩
 ·exact absurd h0 hne
 have mX:=zt (B:=18446744073709551616) (by omega) X
 have mY:=zt (B:=18446744073709551616) (by omega) Y
 rcases hp.s1.open with ⟨e,-⟩|⟨-,g1,o1,c1,rfl,hc1,-,-⟩
 ·rw[e,List.length_nil] at hlen;omega
 rcases hp.s2.open with ⟨e,-⟩|⟨-,g2,o2,c2,rfl,hc2,-,-⟩
 ·rw[e] at h2;simp at h2
 have hap:g1≠g2:=hp.ap _ _ _ _ _ _ _ _ rfl rfl
 obtain⟨l1,f1⟩:=hp.o1 _ _ _ _ rfl
 obtain⟨l2,f2⟩:=hp.o2 _ _ _ _ rfl
 have s1:=hp.s1.seg f1
 have s2:=hp.s2.seg f2
 have sP:=s1.sub 0 (wd 18446744073709551616 Y).length (by omega)
 rw[List.drop_zero,Nat.add_zero] at sP
 have lP:((wd 18446744073709551616 X).take (wd 18446744073709551616 Y).length).length=(wd 18446744073709551616 Y).length:=by rw[List.length_take];omega
 have eP:=gm (wd 18446744073709551616 X) (wd 18446744073709551616 Y).length hlen
 rw[ja (by omega)] at eP
 have eQ:Y=vl 18446744073709551616 (wd 18446744073709551616 Y) + 18446744073709551616^(wd 18446744073709551616 Y).length*0:=by rw[ja (by omega)];omega
 have hYl:=zee Y
 have mP:∀ x ∈ (wd 18446744073709551616 X).take (wd 18446744073709551616 Y).length,x < 18446744073709551616:=fun x hx=>mX x (List.mem_of_mem_take hx)
 cases back
 ·(
 simp only[Bool.false_eq_true,if_false] at hrel
 refine (zxo g1 o1 c1 g2 o2 c2 _ _ ((wd 18446744073709551616 X).take (wd 18446744073709551616 Y).length) (wd 18446744073709551616 Y) w xx xy yx yy hxx hxy hyx hyy hap sP s2 lP rfl (by omega) hlen hc1 hc2 hl mP mY X' Y' (fun ps' qs' u d l r b o h=>?_)).mono ?_
 ·exact h.fin' lP lP X Y X' Y' _ 0 eP eQ hrel.1 hrel.2 (by omega) (by omega)
 ·rintro e w' ⟨v1,v2,rfl,h1,h2',hb,ho1,ho2⟩
  exact⟨v1,v2,X',Y',rfl,⟨h1,h2',ho1.own l1,ho2.own l2,fun b off n c b' off' n' c' e1 e2=>by rw[(ho1 _ _ _ _ e1).1,(ho2 _ _ _ _ e2).1];exact hap⟩,by omega,by omega,by omega,hg,[g1,g2],fun x hx=>by simp at hx;rcases hx with rfl|rfl <;> assumption,hb⟩)
 ·(
 simp only[if_true] at hrel
 refine (ztp g1 o1 c1 g2 o2 c2 _ _ (wd 18446744073709551616 Y) ((wd 18446744073709551616 X).take (wd 18446744073709551616 Y).length) w xx xy yx yy hxx hxy hyx hyy hap sP s2 rfl lP (by omega) hlen hc1 hc2 hl mY mP X' Y' (fun ps' qs' u d l r b o h=>?_)).mono ?_
 ·exact h.fin' rfl lP.symm Y X X' Y' 0 _ eQ eP hrel.1 hrel.2 (by omega) (by omega)
 ·rintro e w' ⟨v1,v2,rfl,h1,h2',hb,ho1,ho2⟩
  exact⟨v1,v2,X',Y',rfl,⟨h1,h2',ho1.own l2,ho2.own l1,fun b off n c b' off' n' c' e1 e2=>by rw[(ho1 _ _ _ _ e1).1,(ho2 _ _ _ _ e2).1];exact hap.symm⟩,by omega,by omega,by omega,hg,[g1,g2],fun x hx=>by simp at hx;rcases hx with rfl|rfl <;> assumption,hb⟩))
end Go.Proofs.YtagmkkiagjmimaaGreatDoor
