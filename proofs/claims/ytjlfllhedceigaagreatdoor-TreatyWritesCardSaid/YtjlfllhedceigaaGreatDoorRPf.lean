/- Plain facts on fractions: what a sum and -/
import Derived.Laws.MakeOwn
import Derived.Laws.Bits64b
import Derived.Test.YtjlfllhedceigaaGreatDoorRH1
import Derived.Test.YtjlfllhedceigaaGreatDoorRPh
namespace Go.Proofs.YtjlfllhedceigaaGreatDoor
set_option linter.unusedVariables false
open Go.Proofs.Tryz
set_option maxHeartbeats 2000000
set_option maxRecDepth 100000
theorem zkd (n:Int) (d:Nat) (hd:d≠0) (hc:n.natAbs.Coprime d) (q:Rat) (h:q.num*d=n*q.den):q.num=n∧q.den=d:=by(
 have e:q=⟨n,d,hd,hc⟩:=by
  rw[Rat.mk_eq_mkRat,← Rat.mkRat_self q,Rat.mkRat_eq_iff q.den_nz hd]
  exact h
 rw[e]
 exact⟨rfl,rfl⟩)
def sgn (s:Bool) (m:Nat):Int:=if s then -(m:Int) else (m:Int)
theorem zty (s:Bool) (m:Nat):(sgn s m).natAbs=m:=by cases s <;> simp[sgn]
theorem zxo (f g:Rat):(f*g).num*(f.den*g.den:Nat)=(f.num*g.num)*(f*g).den:=by(
 have h:=Rat.mul_def' f g
 rw[← Rat.mkRat_self (f*g),Rat.mkRat_eq_iff (f*g).den_nz (Nat.mul_ne_zero f.den_nz g.den_nz)] at h
 exact h)
open Go.RowKit
theorem zyc (m:Nat) (h:m<18446744073709551616):(m=0∧wd 4294967296 m=[])∨(0<m∧m<4294967296∧wd 4294967296 m=[m])∨(4294967296≤m∧wd 4294967296 m=[m%4294967296,m/4294967296]):=by(
 rcases Nat.eq_zero_or_pos m with rfl | h0
 ·exact .inl ⟨rfl,zk _⟩
 ·(
 rcases Nat.lt_or_ge m 4294967296 with h1 | h1
 ·refine .inr (.inl ⟨h0,h1,?_⟩)
  rw[zab (by omega) h0,Nat.mod_eq_of_lt h1,Nat.div_eq_of_lt h1,zk]
 ·refine .inr (.inr ⟨h1,?_⟩)
  rw[zab (by omega) h0,zab (by omega) (by omega:0<m/4294967296),Nat.mod_eq_of_lt (by omega:m/4294967296<4294967296),Nat.div_eq_of_lt (by omega:m/4294967296<4294967296),zk]))
theorem qgr (a b:Nat) (ha:a<4294967296) (hb:b<4294967296):bits .or .u64 (a:Int) ((b:Int)*4294967296)=((a+b*4294967296:Nat):Int):=by(
 have e:(b:Int)*4294967296=((b*4294967296:Nat):Int):=by omega
 rw[e,bits_or_u64_nat a _ (by omega) (by omega),Nat.or_comm]
 have h:=Nat.two_pow_add_eq_or_of_lt (i:=32) (b:=a) (by omega) b
 rw[show (2:Nat)^32=4294967296 from rfl,Nat.mul_comm] at h
 rw[← h,Nat.add_comm])
theorem or_hi (a b:Nat) (ha:a<4294967296) (hb:b<4294967296):bits .or .u64 ((b:Int)*4294967296) (a:Int)=((a+b*4294967296:Nat):Int):=by(
 have e:(b:Int)*4294967296=((b*4294967296:Nat):Int):=by omega
 rw[e,bits_or_u64_nat _ a (by omega) (by omega)]
 have h:=Nat.two_pow_add_eq_or_of_lt (i:=32) (b:=a) (by omega) b
 rw[show (2:Nat)^32=4294967296 from rfl,Nat.mul_comm] at h
 rw[← h,Nat.add_comm])
theorem uy (v:Value) (m:Nat) (w:World) (hv:Sl .u32 w v (wd 4294967296 m)) (hm:m<18446744073709551616) :
   Calls prog 260 #[v] w fun e w'=>e=.returned (.int .u64 m)∧w'=w:=by(
 rcases zyc m hm with ⟨rfl,e⟩|⟨h0,h1,e⟩|⟨h1,e⟩
 ·(
 rw[e] at hv
 obtain⟨a,cap,rfl,-,-⟩:=hv
 go_enter func260,ntmps260
 go_wp2
 go_ret
 exact⟨rfl,rfl⟩)
 ·(
 rw[e] at hv
 rcases hv.open with ⟨h,-⟩|⟨-,b,off,cap,rfl,hc,hb,hcell⟩
 ·simp at h
 ·(
 have c0:=hcell 0 (by simp)
 simp at c0
 clear hcell e hv
 go_enter func260,ntmps260
 go_wp2
 go_ret
 exact⟨rfl,rfl⟩))
 ·(
 rw[e] at hv
 rcases hv.open with ⟨h,-⟩|⟨-,b,off,cap,rfl,hc,hb,hcell⟩
 ·simp at h
 ·(
 have c0:=hcell 0 (by simp)
 have c1:=hcell 1 (by simp)
 simp at c0 c1
 clear hcell e hv
 go_enter func260,ntmps260
 go_wp2
 go_ret
 have e1:(m:Int)%4294967296=((m%4294967296:Nat):Int):=by omega
 have e2:(m:Int)/4294967296=((m/4294967296:Nat):Int):=by omega
 refine⟨?_,rfl⟩
 show Ending.returned (.int .u64 (bits .or .u64 ((m:Int)%4294967296) ((m:Int)/4294967296*4294967296)))=_
 rw[e1,e2,qgr _ _ (by omega) (by omega),show m%4294967296+m/4294967296*4294967296=m from by omega])))
theorem qcq (q:Nat) (h:q<4294967296):(q:Int)%4294967296=(q:Int):=by omega
structure zcc (xs qs:List Nat) (d k r:Nat):Prop where
 len:qs.length=xs.length
 mem:∀ x ∈ qs,x<4294967296
 quo:vl 4294967296 (qs.drop k)=vl 4294967296 (xs.drop k)/d
 rem:r=vl 4294967296 (xs.drop k)%d
theorem zcc.start (xs:List Nat) (d:Nat):zcc xs (List.replicate xs.length 0) d xs.length 0 :=
 ⟨by simp,by intro x hx;rw[List.mem_replicate] at hx;omega,by simp[vl],by simp[vl]⟩
theorem zcc.step {xs qs:List Nat} {d k r:Nat} (h:zcc xs qs d (k+1) r) (hd:0<d) (hd2:d<4294967296) (hk:k<xs.length) (hx:xs[k]?.getD 0<4294967296) (t:Nat) (ht:t=xs[k]?.getD 0+r*4294967296) :
   r<4294967296∧t<18446744073709551616∧t/d<4294967296∧t%d<4294967296∧zcc xs (qs.set k (t/d)) d k (t%d):=by(
 have hr:r<d:=by rw[h.rem];exact Nat.mod_lt _ hd
 have ht2:t/d<4294967296:=by
  rw[Nat.div_lt_iff_lt_mul hd]
  have:(r+1)*4294967296≤d*4294967296:=Nat.mul_le_mul_right _ hr
  rw[Nat.mul_comm 4294967296 d]
  omega
 have htm:=Nat.mod_lt t hd
 have hkq:k<qs.length:=by rw[h.len];exact hk
 have e:vl 4294967296 (xs.drop k)=t+4294967296*(vl 4294967296 (xs.drop (k+1))/d)*d:=by
  have h1:=jg 4294967296 xs k hk
  have h2:=Nat.mod_add_div (vl 4294967296 (xs.drop (k+1))) d
  rw[← h.rem] at h2
  have h3:4294967296*vl 4294967296 (xs.drop (k+1))=4294967296*r+4294967296*(vl 4294967296 (xs.drop (k+1))/d)*d:=by
   rw[Nat.mul_assoc,Nat.mul_comm (_/d) d,← Nat.mul_add,h2]
  omega
 refine⟨by omega,by omega,ht2,by omega,by rw[List.length_set];exact h.len,mem_set h.mem _ _ ht2,?_,?_⟩
 ·rw[e,Nat.add_mul_div_right _ _ hd,jg 4294967296 _ k (by rw[List.length_set];exact hkq),List.getElem?_set_self hkq,List.drop_set_of_lt (by omega),h.quo]
  rfl
 ·rw[e,Nat.add_mul_mod_self_right])
theorem zjs (v:Value) (m d:Nat) (w:World) (hv:Sl .u32 w v (wd 4294967296 m)) (hd:0<d) (hd2:d<4294967296) (hl:(wd 4294967296 m).length<1073741824) :
   Calls prog 259 #[v,.int .u32 d] w fun e w'=>∃ v',e=.returned (.tuple #[v',.int .u32 (m%d:Nat)])∧Sl .u32 w' v' (wd 4294967296 (m/d))∧But [] w w'∧sw w.heap.size v':=by(
 have mm:=zo (B:=4294967296) (by omega) m
 have em:=qh (B:=4294967296) (by omega) m
 generalize wd 4294967296 m=xs at *
 subst em
 have hdb:((d:Int)==0)=false:=by simp;omega
 obtain⟨ti,hi,hz,hs,hbt⟩:=zbh
 have hmk:=fun wx=>run_make (P:=prog) wx 118 284 ti (.int .u32 0) underlying118 hi hz .i64 .i64 (xs.length:Int) (xs.length:Int) (by omega) (by omega) (by rw[hbt];omega) (by omega)
 rw[hs] at hmk
 simp only[Int.toNat_natCast,Nat.mul_one] at hmk
 clear hi hz hs hbt ti
 have MM:=af mm
 clear mm
 rcases hv.open with ⟨rfl,a,cap,rfl⟩|⟨h0,b,off,cap,rfl,hc,hbl,hcell⟩
 ·(
 simp only[List.length_nil,Int.natCast_zero] at hmk
 clear MM hl
 go_enter func259,ntmps259
 go_wp2
 refine wp_loop_rounds 1 ?_
 rw[rounds_succ]
 go_wp2_with fail
 have hS:Sl .u32 (w.alloc (.cells (madeCells #[.int .u32 0] 0) 284)) (.slice (some ⟨w.heap.size,0,none⟩) 0 0) []:=Sl.mk (xs:=[]) w.heap.size 0 0 (Nat.le_refl _) (fun i hi=>by simp at hi) (fun h=>by simp at h)
 refine (uw _ [] _ hS (by simp) (by simp)).mono ?_
 rintro e w' ⟨v',rfl,hs,rfl,hfr⟩
 have HF:sw w.heap.size v':=dx hfr (Nat.le_refl _)
 clear hfr
 go_wp2
 go_ret2
 simp only[vl,Nat.zero_div,Nat.zero_mod] at hs ⊢
 exact⟨v',rfl,hs,(But.refl _ _).alloc _,HF⟩)
 ·(
 have HC:=af hcell
 clear hcell hv
 go_enter func259,ntmps259
 go_wp2
 go_loopw [7,8] (fun r i wr=>∃ (k rN:Nat) (qs:List Nat),k≤xs.length∧i=.int .i64 ((k:Int)-1)∧r=.int .u64 rN∧rN<d∧Hid (zcc xs qs d k rN∧But [] w wr∧j5 .u32 wr w.heap.size qs)) (fun _ i _=>(intOf i+1).toNat)
 case atStart=>exact⟨xs.length,0,List.replicate xs.length 0,Nat.le_refl _,rfl,rfl,hd,zcc.start xs d,(But.refl _ _).alloc _,j5.made _ _ _ _⟩
 case round =>(
 obtain⟨k,rN,qs,hk,rfl,rfl,hrN,HI⟩:=hrel
 rename World=>wr
 by_cases hk0:k=0
 ·(
 subst hk0
 go_wp2_with fail
 have hI:=ae HI
 have hS:=hI.2.2.sl xs.length (by rw[hI.1.len];exact Nat.le_refl _)
 rw[hI.1.len] at hS
 refine (uw _ qs _ hS hI.1.mem (by rw[hI.1.len];omega)).mono ?_
 rintro e w' ⟨v',rfl,hs,rfl,hfr⟩
 have HF:sw w.heap.size v':=dx hfr (Nat.le_refl _)
 clear hfr
 go_wp2
 go_ret2
 have hq:=hI.1.quo
 have hr:=hI.1.rem
 simp only[List.drop_zero] at hq hr
 rw[hq] at hs
 exact⟨v',by rw[← hr];rfl,hs,hI.2.1,HF⟩)
 ·(
 obtain⟨i,rfl⟩:∃ i,k=i+1:=⟨k-1,by omega⟩
 rw[show (((i+1:Nat):Int)-1)=(i:Int) from by omega]
 have hil:i<qs.length:=by rw[(ae HI).1.len];omega
 have cx:=(ae HI).2.1.ag (ae HC i (by omega)) (by simp)
 have hxB:xs[i]?.getD 0<4294967296:=bz (ae MM) (by omega) i
 obtain⟨cr,fr⟩:=(ae HI).2.2.row i hil
 have ST:=af ((ae HI).1.step hd hd2 (by omega) hxB _ rfl)
 have OR:=or_hi (xs[i]?.getD 0) rN hxB (by omega)
 generalize xs[i]?.getD 0=x at *
 generalize qs[i]?.getD 0=r0 at *
 go_wp2
 have hS:=ae ST
 have hR:=(ae HI).2.2
 have e1:((x:Int)+(rN:Int)*4294967296)=((x+rN*4294967296:Nat):Int):=by omega
 rw[e1]
 generalize x+rN*4294967296=t at *
 have e2:(t:Int)/(d:Int)%4294967296=((t/d:Nat):Int):=by rw[← Int.natCast_ediv];exact qcq _ hS.2.2.1
 have e3:(t:Int)%(d:Int)=((t%d:Nat):Int):=by rw[Int.natCast_emod]
 rw[e2,e3]
 refine⟨⟨i,t%d,qs.set i (t/d),by omega,rfl,rfl,Nat.mod_lt _ hd,hS.2.2.2.2,(ae HI).2.1.setCell (by simp) _,hR.set _ hil _⟩,?_⟩
 simp[intOf]))))
theorem zvs (v:Value) (m d:Nat) (w:World) (hv:Sl .u32 w v (wd 4294967296 m)) (hd:0<d) (hd2:d<4294967296) (hl:(wd 4294967296 m).length<1073741824) :
  Calls prog 259 #[v,.int .u32 d] w fun e w'=>∃ v',e=.returned (.tuple #[v',.int .u32 (m%d:Nat)])∧Sl .u32 w' v' (wd 4294967296 (m/d))∧But [] w w' :=
 (zjs v m d w hv hd hd2 hl).mono fun _ _ ⟨v',h1,h2,h3,_⟩=>⟨v',h1,h2,h3⟩
end Go.Proofs.YtjlfllhedceigaaGreatDoor
