/- What it costs to have had a limit anew,  -/
import Derived.Test.YtjbboicccddhbaaGreatDoorKPAXb
import Derived.Test.YtjbboicccddhbaaGreatDoorKPQ4
namespace Go.Proofs.YtjbboicccddhbaaGreatDoor
open Go.RowKit
set_option maxHeartbeats 8000000
set_option maxRecDepth 100000
theorem nearR_nat (g:Rat) (M:Nat) (h0:0≤g) (h1:g≤((M:Int):Rat)):∃ z:Nat,nearR g=((z:Int):Rat)∧z≤M+1:=by
 have a0:0≤g.num:=Rat.num_nonneg.2 h0
 have a1:g.num≤(M:Int)*(g.den:Int):=by
  have:=(Rat.le_iff _ _).1 h1
  simpa using this
 have hd:(0:Int)<(g.den:Int):=by have:=g.den_pos;omega
 have b0:0≤fl g:=Int.ediv_nonneg a0 (by omega)
 have b1:fl g≤(M:Int):=Int.ediv_le_of_le_mul hd a1
 unfold nearR
 split
 ·refine ⟨(fl g+1).toNat,?_,by omega⟩
  rw [Int.toNat_of_nonneg (by omega),Rat.intCast_add]
 ·exact ⟨(fl g).toNat,by rw [Int.toNat_of_nonneg b0],by omega⟩
theorem premium_any (kd:Int) (s:Bool) (x y:Int) (p:Option Addr) (fr li ti pr:Int) (tof:ByteArray) (bo:Int) (w:World) (h2:1≤li∧li≤1000000000000) (h3:0≤ti∧ti≤100) (h4:0≤pr∧pr≤1000000000000) (h5:0≤bo∧bo≤1000000000000000) :
  ∃ z:Nat,z≤1000000000000000∧∀ W,But [] w W→Calls Tryz.prog 71 #[lineV kd s x y p fr li ti pr tof,.int .i64 bo] W fun e w'=>e=.returned (.int .i64 (z:Int))∧But [] W w':=by
 have hp0:0≤li*ti:=Int.mul_nonneg (by omega) h3.1
 have hp1:li*ti≤100000000000000:=by
  have a1:=Int.mul_le_mul h2.2 h3.2 h3.1 (by omega)
  omega
 obtain ⟨m,hm⟩:∃ m,min bo (li*ti)=m:=⟨_,rfl⟩
 have hm0:0≤m∧m≤100000000000000∧m≤li*ti:=by omega
 obtain ⟨f,r,u,v,lf,ef,F,C⟩:=divided_at m li (by omega) (by omega) (by omega) (by omega) (by omega)
 obtain ⟨us,ux,FU,CU⟩:=whole_is pr (by omega) (by omega)
 obtain ⟨vs,vx,FV,CV⟩:=whole_is 1 (by omega) (by omega)
 have lp:Len ((pr:Int):Rat) 1:=len_int _ (by omega)
 have l1:Len (((1:Int)):Rat) 1:=len_int _ (by omega)
 have l2:=len_mul lf lp 2 (by omega)
 have hli:(0:Rat)<((li:Int):Rat):=by rw [show (0:Rat)=((0:Int):Rat) from rfl,Rat.intCast_lt_intCast];omega
 have f0:0≤f:=by
  refine Rat.not_lt.1 fun h=>?_
  have:=Rat.mul_lt_mul_of_pos_right h hli
  rw [ef,Rat.zero_mul,show (0:Rat)=((0:Int):Rat) from rfl,Rat.intCast_lt_intCast] at this
  omega
 have f1:f≤((ti:Int):Rat):=by
  refine Rat.not_lt.1 fun h=>?_
  have:=Rat.mul_lt_mul_of_pos_right h hli
  rw [ef,← Rat.intCast_mul,Rat.intCast_lt_intCast] at this
  have e:ti*li=li*ti:=Int.mul_comm _ _
  omega
 have p0:(0:Rat)≤((pr:Int):Rat):=by rw [show (0:Rat)=((0:Int):Rat) from rfl,Rat.intCast_le_intCast];omega
 have g0:0≤f*((pr:Int):Rat):=Rat.mul_nonneg f0 p0
 have g1:f*((pr:Int):Rat)≤(((100000000000000:Nat):Int):Rat):=by
  have a:=Rat.mul_le_mul_of_nonneg_right f1 p0
  rw [← Rat.intCast_mul] at a
  refine Rat.le_trans a ?_
  rw [Rat.intCast_le_intCast]
  have a1:=Int.mul_le_mul h3.2 h4.2 h4.1 (by omega)
  omega
 have i1:(((1:Int):Rat))⁻¹=1:=by
  have h:=Rat.mul_inv_cancel (1:Rat) (by decide)
  rw [Rat.one_mul] at h
  exact h
 obtain ⟨z,hz,hzn⟩:=nearR_nat (f*((pr:Int):Rat)) 100000000000000 g0 g1
 have hR:nearR (f*((pr:Int):Rat)*(((1:Int):Rat))⁻¹)*((1:Int):Rat)=((z:Int):Rat):=by
  rw [i1,Rat.mul_one,hz,show (((1:Int):Rat))=1 from rfl,Rat.mul_one]
 refine ⟨z,by omega,fun w hw=>?_⟩
 have MU:Hid (∀ W,Calls Tryz.prog 37 #[.agg #[.bool r,.int .u64 u,.int .u64 v,.pointer none],.agg #[.bool us,.int .u64 ux,.int .u64 0,.pointer none]] W fun e w'=>∃ v,e=.returned v∧FracAt w' v (f*((pr:Int):Rat))∧But [] W w'):=fun W=>fracMul_any _ _ f _ W (F W) (FU W) (lf.mono (by omega)) (lp.mono (by omega))
 have RO:Hid (∀ W v,FracAt W v (f*((pr:Int):Rat))→Calls Tryz.prog 25 #[v,.agg #[.bool vs,.int .u64 vx,.int .u64 0,.pointer none]] W fun e w'=>∃ v':Bool × Int × Int × Option Addr,e=.returned (.tuple #[.agg #[.bool v'.1,.int .u64 v'.2.1,.int .u64 v'.2.2.1,.pointer v'.2.2.2],.nilIface])∧FracAt w' (.agg #[.bool v'.1,.int .u64 v'.2.1,.int .u64 v'.2.2.1,.pointer v'.2.2.2]) ((z:Int):Rat)∧But [] W w'):=fun W v hv=>by
  refine (round_any v _ _ _ W hv (FV W) l2 l1 (by rw [show (((1:Int):Rat))=1 from rfl];decide)).mono ?_
  rintro e w' ⟨v',rfl,hf,hb⟩
  rw [hR] at hf
  obtain ⟨x',y',p',rfl,-⟩:=hf.agg
  exact ⟨(_,x',y',p'),rfl,hf,hb⟩
 obtain ⟨pr2,hpr⟩:∃ pr2,li*ti=pr2:=⟨_,rfl⟩
 rw [hpr] at hp0 hp1 hm
 have HC:=hide C
 have HCU:=hide CU
 have HCV:=hide CV
 have X2:=hide (LBox.new w kd s x y p fr li ti pr tof)
 have bA:=hide ((But.refl [] w).alloc (.cells #[.int .i64 kd,.bool s,.int .u64 x,.int .u64 y,.pointer p,.int .i64 fr,.int .i64 li,.int .i64 ti,.int .i64 pr,.string tof] 71))
 have HZN:=hide hzn
 clear C CU CV F FU FV ef f0 f1 p0 g0 g1 i1 hz hR lf lp l1 l2 hli hzn
 unfold lineV
 go_enter Tryz.func71,Tryz.ntmps71
 go_wp2_with fail
 refine (unhide HC _).mono ?_
 rintro e w1 ⟨rfl,hb1⟩
 have B1:=hide ((unhide bA).trans' hb1)
 have x2:=(unhide X2).but hb1 (by simp)
 generalize w.heap.size=g2 at x2 ⊢
 have c5:P4o (w1.alloc (.cells #[.bool r,.int .u64 u,.int .u64 v,.pointer none] 27)) w1.heap.size 0 r u v none:=⟨by simp,by simp,by simp,by simp⟩
 have b5:But [] w1 (w1.alloc (.cells #[.bool r,.int .u64 u,.int .u64 v,.pointer none] 27)):=(But.refl _ _).alloc _
 have X5:=hide (x2.but b5 (by simp))
 have B5:=hide ((unhide B1).trans' b5)
 have C5:=hide c5
 clear hb1 bA X2 x2 c5 b5 B1 HC
 go_wp2
 generalize w1.alloc (.cells #[.bool r,.int .u64 u,.int .u64 v,.pointer none] 27)=V at *
 generalize w1.heap.size=g5 at C5 ⊢
 refine premium_region2 2 _ _ V g5 g2 r u v none pr us ux vs vx _ _ (by simp) (by simp [Act.eval]) (by simp [Act.eval]) (unhide C5) ((unhide X5).cells 8 _ rfl) (unhide HCU) (unhide HCV) (fun W _=>unhide MU W) (fun W _ v hv=>unhide RO W v hv) ?_
 rintro vm ⟨s',x',y',p'⟩ g6 w2 hP
 simp only [putted,List.foldl_cons,List.foldl_nil,Act.put,List.setIfInBounds_toArray,List.set_cons_zero,List.set_cons_succ]
 have hv:Value.agg #[.bool s',.int .u64 x',.int .u64 y',.pointer p']=.agg #[.bool false,.int .u64 (z:Int),.int .u64 0,.pointer none]:=intZ_at z (by have:=unhide HZN;omega) (hP.f6 rfl)
 simp only [Value.agg.injEq,Array.mk.injEq,List.cons.injEq,Value.bool.injEq,Value.int.injEq,Value.pointer.injEq,and_true,true_and] at hv
 obtain ⟨rfl,rfl,rfl,rfl⟩:=hv
 have hput:=(hP.f10 rfl).put (us:=[.bool false,.int .u64 (z:Int),.int .u64 0,.pointer none]) rfl
 have hb:=but_setCells w2 g6 [.bool false,.int .u64 (z:Int),.int .u64 0,.pointer none] 0
 have hnew:=(hP.f10 rfl).new
 have hB:=(unhide B5).trans' hP.mem
 have B6:=hide (hB.trans hb (fun x hx=>by simp at hx;subst hx;exact .inr (Nat.le_trans (unhide B5).size hnew)))
 have d0:=hput.cells 0 _ rfl
 have d1:=hput.cells 1 _ rfl
 have d2:=hput.cells 2 _ rfl
 have d3:=hput.cells 3 _ rfl
 have IN:=hide (fun W=>fracInt_small z (by have:=unhide HZN;omega) W)
 generalize w2.setCells g6 0 [.bool false,.int .u64 (z:Int),.int .u64 0,.pointer none]=U at *
 clear hP hput hb hnew hB X5 B5 C5 MU RO HCU HCV
 go_wp2_with fail
 refine (unhide IN _).mono ?_
 rintro e w3 ⟨rfl,hb3⟩
 have B7:=hide ((unhide B6).trans' hb3)
 clear hb3 B6
 go_wp2
 exact bodyPost_ret (v:=.int .i64 (z:Int)) (by simp [results,Tryz.results71,go_sem]) rfl ⟨rfl,unhide B7⟩
end Go.Proofs.YtjbboicccddhbaaGreatDoor
