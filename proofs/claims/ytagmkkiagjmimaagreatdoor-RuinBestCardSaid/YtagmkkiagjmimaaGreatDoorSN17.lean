/- Steps of Euclid's by leading bits, as th -/
import Derived.Laws.MakeOwn
import Derived.Laws.Bits64b
import Derived.Test.YtagmkkiagjmimaaGreatDoorSH1
import Derived.Test.YtagmkkiagjmimaaGreatDoorSShelf
namespace Go.Proofs.YtagmkkiagjmimaaGreatDoor
set_option linter.unusedVariables false
open Go.Proofs.Tryz
open Go.RowKit
set_option maxHeartbeats 2000000
set_option maxRecDepth 100000
def uj (X Y xx xy yx yy:Nat) (back:Bool):Prop:=xy=0∨∃ X' Y':Nat,(if back then X' + xx*X=xy*Y∧Y' + yy*Y=yx*X else X' + xy*Y=xx*X∧Y' + yx*X=yy*Y)∧Y' < X'∧X'≤Y∧Nat.gcd X' Y'=Nat.gcd X Y
theorem uj.of {a0 b0 a b xx xy yx yy:Nat} {back:Bool} (h:Lst a0 b0 a b xx xy yx yy back) (X Y K ε δ:Nat) (hX:X=a0*K+ε) (hY:Y=b0*K+δ) (hε:ε<K) (hδ:δ<K):uj X Y xx xy yx yy back:=by(
 obtain⟨h1,-,h2 | h2⟩:=h
 ·exact .inl h2.2.1
 ·exact .inr (h1.apply h2 X Y K ε δ hX hY hε hδ))
theorem zdj (wr:World) (gz:Nat) (t:TypeId) (v0 v1 v2 v3 v4 u0 u1 u2 u3 u4:Value) (cs:Array Value) (h:gz<wr.heap.size) (c0:wr.cell? ⟨gz,0,none⟩=some u0) (c1:wr.cell? ⟨gz,1,none⟩=some u1) (c2:wr.cell? ⟨gz,2,none⟩=some u2) (c3:wr.cell? ⟨gz,3,none⟩=some u3) (c4:wr.cell? ⟨gz,4,none⟩=some u4) (hf:∀ j,wr.frozen? ⟨gz,j,none⟩=false) :
   (((((((wr.setCell ⟨gz,0,none⟩ v0).setCell ⟨gz,1,none⟩ v1).setCell ⟨gz,2,none⟩ v2).setCell ⟨gz,3,none⟩ v3).setCell ⟨gz,4,none⟩ v4).alloc (.cells cs t)).cell? ⟨gz,0,none⟩=some v0 ∧
   ((((((wr.setCell ⟨gz,0,none⟩ v0).setCell ⟨gz,1,none⟩ v1).setCell ⟨gz,2,none⟩ v2).setCell ⟨gz,3,none⟩ v3).setCell ⟨gz,4,none⟩ v4).alloc (.cells cs t)).cell? ⟨gz,1,none⟩=some v1 ∧
   ((((((wr.setCell ⟨gz,0,none⟩ v0).setCell ⟨gz,1,none⟩ v1).setCell ⟨gz,2,none⟩ v2).setCell ⟨gz,3,none⟩ v3).setCell ⟨gz,4,none⟩ v4).alloc (.cells cs t)).cell? ⟨gz,2,none⟩=some v2 ∧
   ((((((wr.setCell ⟨gz,0,none⟩ v0).setCell ⟨gz,1,none⟩ v1).setCell ⟨gz,2,none⟩ v2).setCell ⟨gz,3,none⟩ v3).setCell ⟨gz,4,none⟩ v4).alloc (.cells cs t)).cell? ⟨gz,3,none⟩=some v3 ∧
   ((((((wr.setCell ⟨gz,0,none⟩ v0).setCell ⟨gz,1,none⟩ v1).setCell ⟨gz,2,none⟩ v2).setCell ⟨gz,3,none⟩ v3).setCell ⟨gz,4,none⟩ v4).alloc (.cells cs t)).cell? ⟨gz,4,none⟩=some v4) ∧
   ∀ j,((((((wr.setCell ⟨gz,0,none⟩ v0).setCell ⟨gz,1,none⟩ v1).setCell ⟨gz,2,none⟩ v2).setCell ⟨gz,3,none⟩ v3).setCell ⟨gz,4,none⟩ v4).alloc (.cells cs t)).frozen? ⟨gz,j,none⟩=false:=by(
 have e0:∀ (w:World) (o:Obj) (p:Addr),p.block<w.heap.size→(w.alloc o).cell? p=w.cell? p:=fun w o p hp=>((But.refl [] w).alloc o).cell hp (by simp)
 have e1:∀ (w:World) (o:Obj) (p:Addr),p.block<w.heap.size→(w.alloc o).frozen? p=w.frozen? p:=fun w o p hp=>((But.refl [] w).alloc o).frozen hp (by simp)
 have k0:=World.cell?_setCell_same wr ⟨gz,0,none⟩ v0 c0
 have k1:=World.cell?_setCell_same (wr.setCell ⟨gz,0,none⟩ v0) ⟨gz,1,none⟩ v1 (u:=u1) (by rw[World.cell?_setCell_other _ _ _ _ (by simp)];exact c1)
 have k2:=World.cell?_setCell_same ((wr.setCell ⟨gz,0,none⟩ v0).setCell ⟨gz,1,none⟩ v1) ⟨gz,2,none⟩ v2 (u:=u2) (by rw[World.cell?_setCell_other _ _ _ _ (by simp),World.cell?_setCell_other _ _ _ _ (by simp)];exact c2)
 have k3:=World.cell?_setCell_same (((wr.setCell ⟨gz,0,none⟩ v0).setCell ⟨gz,1,none⟩ v1).setCell ⟨gz,2,none⟩ v2) ⟨gz,3,none⟩ v3 (u:=u3) (by rw[World.cell?_setCell_other _ _ _ _ (by simp),World.cell?_setCell_other _ _ _ _ (by simp),World.cell?_setCell_other _ _ _ _ (by simp)];exact c3)
 have k4:=World.cell?_setCell_same ((((wr.setCell ⟨gz,0,none⟩ v0).setCell ⟨gz,1,none⟩ v1).setCell ⟨gz,2,none⟩ v2).setCell ⟨gz,3,none⟩ v3) ⟨gz,4,none⟩ v4 (u:=u4) (by rw[World.cell?_setCell_other _ _ _ _ (by simp),World.cell?_setCell_other _ _ _ _ (by simp),World.cell?_setCell_other _ _ _ _ (by simp),World.cell?_setCell_other _ _ _ _ (by simp)];exact c4)
 refine⟨⟨?_,?_,?_,?_,?_⟩,fun j=>?_⟩
 ·rw[e0 _ _ _ (by simpa using h),World.cell?_setCell_other _ _ _ _ (by simp),World.cell?_setCell_other _ _ _ _ (by simp),World.cell?_setCell_other _ _ _ _ (by simp),World.cell?_setCell_other _ _ _ _ (by simp)];exact k0
 ·rw[e0 _ _ _ (by simpa using h),World.cell?_setCell_other _ _ _ _ (by simp),World.cell?_setCell_other _ _ _ _ (by simp),World.cell?_setCell_other _ _ _ _ (by simp)];exact k1
 ·rw[e0 _ _ _ (by simpa using h),World.cell?_setCell_other _ _ _ _ (by simp),World.cell?_setCell_other _ _ _ _ (by simp)];exact k2
 ·rw[e0 _ _ _ (by simpa using h),World.cell?_setCell_other _ _ _ _ (by simp)];exact k3
 ·rw[e0 _ _ _ (by simpa using h)];exact k4
 ·rw[e1 _ _ _ (by simpa using h)]
  simp only[World.frozen?_setCell]
  exact hf j)
theorem qab (m:Nat) (h:m<18446744073709551616):(m=0∧wd 4294967296 m=[])∨(0<m∧m<4294967296∧wd 4294967296 m=[m])∨(4294967296≤m∧wd 4294967296 m=[m%4294967296,m/4294967296]):=by(
 rcases Nat.eq_zero_or_pos m with rfl | h0
 ·exact .inl ⟨rfl,zh _⟩
 ·(
 rcases Nat.lt_or_ge m 4294967296 with h1 | h1
 ·refine .inr (.inl ⟨h0,h1,?_⟩)
  rw[zau (by omega) h0,Nat.mod_eq_of_lt h1,Nat.div_eq_of_lt h1,zh]
 ·refine .inr (.inr ⟨h1,?_⟩)
  rw[zau (by omega) h0,zau (by omega) (by omega:0<m/4294967296),Nat.mod_eq_of_lt (by omega:m/4294967296<4294967296),Nat.div_eq_of_lt (by omega:m/4294967296<4294967296),zh]))
theorem qgq (a b:Nat) (ha:a<4294967296) (hb:b<4294967296):bits .or .u64 (a:Int) ((b:Int)*4294967296)=((a+b*4294967296:Nat):Int):=by(
 have e:(b:Int)*4294967296=((b*4294967296:Nat):Int):=by omega
 rw[e,bits_or_u64_nat a _ (by omega) (by omega),Nat.or_comm]
 have h:=Nat.two_pow_add_eq_or_of_lt (i:=32) (b:=a) (by omega) b
 rw[show (2:Nat)^32=4294967296 from rfl,Nat.mul_comm] at h
 rw[← h,Nat.add_comm])
theorem or_hi (a b:Nat) (ha:a<4294967296) (hb:b<4294967296):bits .or .u64 ((b:Int)*4294967296) (a:Int)=((a+b*4294967296:Nat):Int):=by(
 have e:(b:Int)*4294967296=((b*4294967296:Nat):Int):=by omega
 rw[e,bits_or_u64_nat _ a (by omega) (by omega)]
 have h:=Nat.two_pow_add_eq_or_of_lt (i:=32) (b:=a) (by omega) b
 rw[show (2:Nat)^32=4294967296 from rfl,Nat.mul_comm] at h
 rw[← h,Nat.add_comm])
theorem zas (v:Value) (m:Nat) (w:World) (hv:Sl .u32 w v (wd 4294967296 m)) (hm:m<18446744073709551616) :
   Calls prog 229 #[v] w fun e w'=>e=.returned (.int .u64 m)∧w'=w:=by(
 rcases qab m hm with ⟨rfl,e⟩|⟨h0,h1,e⟩|⟨h1,e⟩
 ·(
 rw[e] at hv
 obtain⟨a,cap,rfl,-,-⟩:=hv
 go_enter func229,ntmps229
 go_wp2
 go_ret
 exact⟨rfl,rfl⟩)
 ·(
 rw[e] at hv
 rcases hv.open with ⟨h,-⟩|⟨-,b,off,cap,rfl,hc,hb,hcell⟩
 ·simp at h
 ·(
 have c0:=hcell 0 (by simp)
 simp at c0
 clear hcell e hv
 go_enter func229,ntmps229
 go_wp2
 go_ret
 exact⟨rfl,rfl⟩))
 ·(
 rw[e] at hv
 rcases hv.open with ⟨h,-⟩|⟨-,b,off,cap,rfl,hc,hb,hcell⟩
 ·simp at h
 ·(
 have c0:=hcell 0 (by simp)
 have c1:=hcell 1 (by simp)
 simp at c0 c1
 clear hcell e hv
 go_enter func229,ntmps229
 go_wp2
 go_ret
 have e1:(m:Int)%4294967296=((m%4294967296:Nat):Int):=by omega
 have e2:(m:Int)/4294967296=((m/4294967296:Nat):Int):=by omega
 refine⟨?_,rfl⟩
 show Ending.returned (.int .u64 (bits .or .u64 ((m:Int)%4294967296) ((m:Int)/4294967296*4294967296)))=_
 rw[e1,e2,qgq _ _ (by omega) (by omega),show m%4294967296+m/4294967296*4294967296=m from by omega])))
theorem qcq (q:Nat) (h:q<4294967296):(q:Int)%4294967296=(q:Int):=by omega
structure zdm (xs qs:List Nat) (d k r:Nat):Prop where
 len:qs.length=xs.length
 mem:∀ x ∈ qs,x<4294967296
 quo:vl 4294967296 (qs.drop k)=vl 4294967296 (xs.drop k)/d
 rem:r=vl 4294967296 (xs.drop k)%d
theorem zdm.start (xs:List Nat) (d:Nat):zdm xs (List.replicate xs.length 0) d xs.length 0 :=
 ⟨by simp,by intro x hx;rw[List.mem_replicate] at hx;omega,by simp[vl],by simp[vl]⟩
theorem zdm.step {xs qs:List Nat} {d k r:Nat} (h:zdm xs qs d (k+1) r) (hd:0<d) (hd2:d<4294967296) (hk:k<xs.length) (hx:xs[k]?.getD 0<4294967296) (t:Nat) (ht:t=xs[k]?.getD 0+r*4294967296) :
   r<4294967296∧t<18446744073709551616∧t/d<4294967296∧t%d<4294967296∧zdm xs (qs.set k (t/d)) d k (t%d):=by(
 have hr:r<d:=by rw[h.rem];exact Nat.mod_lt _ hd
 have ht2:t/d<4294967296:=by
  rw[Nat.div_lt_iff_lt_mul hd]
  have:(r+1)*4294967296≤d*4294967296:=Nat.mul_le_mul_right _ hr
  rw[Nat.mul_comm 4294967296 d]
  omega
 have htm:=Nat.mod_lt t hd
 have hkq:k<qs.length:=by rw[h.len];exact hk
 have e:vl 4294967296 (xs.drop k)=t+4294967296*(vl 4294967296 (xs.drop (k+1))/d)*d:=by
  have h1:=j6 4294967296 xs k hk
  have h2:=Nat.mod_add_div (vl 4294967296 (xs.drop (k+1))) d
  rw[← h.rem] at h2
  have h3:4294967296*vl 4294967296 (xs.drop (k+1))=4294967296*r+4294967296*(vl 4294967296 (xs.drop (k+1))/d)*d:=by
   rw[Nat.mul_assoc,Nat.mul_comm (_/d) d,← Nat.mul_add,h2]
  omega
 refine⟨by omega,by omega,ht2,by omega,by rw[List.length_set];exact h.len,mem_set h.mem _ _ ht2,?_,?_⟩
 ·rw[e,Nat.add_mul_div_right _ _ hd,j6 4294967296 _ k (by rw[List.length_set];exact hkq),List.getElem?_set_self hkq,List.drop_set_of_lt (by omega),h.quo]
  rfl
 ·rw[e,Nat.add_mul_mod_self_right])
theorem zjz (v:Value) (m d:Nat) (w:World) (hv:Sl .u32 w v (wd 4294967296 m)) (hd:0<d) (hd2:d<4294967296) (hl:(wd 4294967296 m).length<1073741824) :
   Calls prog 228 #[v,.int .u32 d] w fun e w'=>∃ v',e=.returned (.tuple #[v',.int .u32 (m%d:Nat)])∧Sl .u32 w' v' (wd 4294967296 (m/d))∧But [] w w'∧mi w.heap.size v':=by(
 have mm:=zo (B:=4294967296) (by omega) m
 have em:=qg (B:=4294967296) (by omega) m
 generalize wd 4294967296 m=xs at *
 subst em
 have hdb:((d:Int)==0)=false:=by simp;omega
 obtain⟨ti,hi,hz,hs,hbt⟩:=zco
 have hmk:=fun wx=>run_make (P:=prog) wx 109 238 ti (.int .u32 0) underlying109 hi hz .i64 .i64 (xs.length:Int) (xs.length:Int) (by omega) (by omega) (by rw[hbt];omega) (by omega)
 rw[hs] at hmk
 simp only[Int.toNat_natCast,Nat.mul_one] at hmk
 clear hi hz hs hbt ti
 have MM:=af mm
 clear mm
 rcases hv.open with ⟨rfl,a,cap,rfl⟩|⟨h0,b,off,cap,rfl,hc,hbl,hcell⟩
 ·(
 simp only[List.length_nil,Int.natCast_zero] at hmk
 clear MM hl
 go_enter func228,ntmps228
 go_wp2
 refine wp_loop_rounds 1 ?_
 rw[rounds_succ]
 go_wp2_with fail
 have hS:Sl .u32 (w.alloc (.cells (madeCells #[.int .u32 0] 0) 238)) (.slice (some ⟨w.heap.size,0,none⟩) 0 0) []:=Sl.mk (xs:=[]) w.heap.size 0 0 (Nat.le_refl _) (fun i hi=>by simp at hi) (fun h=>by simp at h)
 refine (lv _ [] _ hS (by simp) (by simp)).mono ?_
 rintro e w' ⟨v',rfl,hs,rfl,hfr⟩
 have HF:mi w.heap.size v':=yh hfr (Nat.le_refl _)
 clear hfr
 go_wp2
 go_ret2
 simp only[vl,Nat.zero_div,Nat.zero_mod] at hs ⊢
 exact⟨v',rfl,hs,(But.refl _ _).alloc _,HF⟩)
 ·(
 have HC:=af hcell
 clear hcell hv
 go_enter func228,ntmps228
 go_wp2
 go_loopw [7,8] (fun r i wr=>∃ (k rN:Nat) (qs:List Nat),k≤xs.length∧i=.int .i64 ((k:Int)-1)∧r=.int .u64 rN∧rN<d∧Hid (zdm xs qs d k rN∧But [] w wr∧j5 .u32 wr w.heap.size qs)) (fun _ i _=>(intOf i+1).toNat)
 case atStart=>exact⟨xs.length,0,List.replicate xs.length 0,Nat.le_refl _,rfl,rfl,hd,zdm.start xs d,(But.refl _ _).alloc _,j5.made _ _ _ _⟩
 case round =>(
 obtain⟨k,rN,qs,hk,rfl,rfl,hrN,HI⟩:=hrel
 rename World=>wr
 by_cases hk0:k=0
 ·(
 subst hk0
 go_wp2_with fail
 have hI:=ae HI
 have hS:=hI.2.2.sl xs.length (by rw[hI.1.len];exact Nat.le_refl _)
 rw[hI.1.len] at hS
 refine (lv _ qs _ hS hI.1.mem (by rw[hI.1.len];omega)).mono ?_
 rintro e w' ⟨v',rfl,hs,rfl,hfr⟩
 have HF:mi w.heap.size v':=yh hfr (Nat.le_refl _)
 clear hfr
 go_wp2
 go_ret2
 have hq:=hI.1.quo
 have hr:=hI.1.rem
 simp only[List.drop_zero] at hq hr
 rw[hq] at hs
 exact⟨v',by rw[← hr];rfl,hs,hI.2.1,HF⟩)
 ·(
 obtain⟨i,rfl⟩:∃ i,k=i+1:=⟨k-1,by omega⟩
 rw[show (((i+1:Nat):Int)-1)=(i:Int) from by omega]
 have hil:i<qs.length:=by rw[(ae HI).1.len];omega
 have cx:=(ae HI).2.1.ag (ae HC i (by omega)) (by simp)
 have hxB:xs[i]?.getD 0<4294967296:=bt (ae MM) (by omega) i
 obtain⟨cr,fr⟩:=(ae HI).2.2.row i hil
 have ST:=af ((ae HI).1.step hd hd2 (by omega) hxB _ rfl)
 have OR:=or_hi (xs[i]?.getD 0) rN hxB (by omega)
 generalize xs[i]?.getD 0=x at *
 generalize qs[i]?.getD 0=r0 at *
 go_wp2
 have hS:=ae ST
 have hR:=(ae HI).2.2
 have e1:((x:Int)+(rN:Int)*4294967296)=((x+rN*4294967296:Nat):Int):=by omega
 rw[e1]
 generalize x+rN*4294967296=t at *
 have e2:(t:Int)/(d:Int)%4294967296=((t/d:Nat):Int):=by rw[← Int.natCast_ediv];exact qcq _ hS.2.2.1
 have e3:(t:Int)%(d:Int)=((t%d:Nat):Int):=by rw[Int.natCast_emod]
 rw[e2,e3]
 refine⟨⟨i,t%d,qs.set i (t/d),by omega,rfl,rfl,Nat.mod_lt _ hd,hS.2.2.2.2,(ae HI).2.1.setCell (by simp) _,hR.set _ hil _⟩,?_⟩
 simp[intOf]))))
theorem zxl (v:Value) (m d:Nat) (w:World) (hv:Sl .u32 w v (wd 4294967296 m)) (hd:0<d) (hd2:d<4294967296) (hl:(wd 4294967296 m).length<1073741824) :
  Calls prog 228 #[v,.int .u32 d] w fun e w'=>∃ v',e=.returned (.tuple #[v',.int .u32 (m%d:Nat)])∧Sl .u32 w' v' (wd 4294967296 (m/d))∧But [] w w' :=
 (zjz v m d w hv hd hd2 hl).mono fun _ _ ⟨v',h1,h2,h3,_⟩=>⟨v',h1,h2,h3⟩
end Go.Proofs.YtagmkkiagjmimaaGreatDoor
