/- A fraction rounded down, as the Go text  -/
import Derived.Test.YtlckjpelcmjimaaGreatDoorKPF13
import Derived.Test.YtlckjpelcmjimaaGreatDoorKPFW
namespace Go.Proofs.YtlckjpelcmjimaaGreatDoor
open Go.RowKit
set_option maxHeartbeats 8000000
set_option maxRecDepth 100000
def fl (f:Rat):Int:=f.num/(f.den:Int)
theorem fl_below (a q:Nat) (hq:0<q) (hm:a%q≠0):(-(a:Int))/(q:Int)=-(((a/q:Nat):Int)+1):=by
 have h1:=Nat.div_add_mod a q
 have h2:=Nat.mod_lt a hq
 have e:(-(a:Int))=(q:Int)*(-(((a/q:Nat):Int)+1))+((q-a%q:Nat):Int):=by
  have h3:(a:Int)=(q:Int)*((a/q:Nat):Int)+((a%q:Nat):Int):=by
   rw [← Int.natCast_mul,← Int.natCast_add,h1]
  rw [Int.ofNat_sub (Nat.le_of_lt h2)]
  generalize ((a/q:Nat):Int)=d at *
  generalize ((a%q:Nat):Int)=m at *
  rw [h3,Int.mul_neg,Int.mul_add]
  omega
 have:=(Int.ediv_emod_unique (a:=-(a:Int)) (b:=(q:Int)) (r:=((q-a%q:Nat):Int)) (q:=-(((a/q:Nat):Int)+1)) (by omega)).2 ⟨by omega,by omega,by omega⟩
 exact this.1
theorem cop_mod {f:Rat} (h:f.den≠1):f.num.natAbs%f.den≠0:=by
 intro e
 have h1:=f.reduced
 have h2:f.den ∣ f.num.natAbs:=Nat.dvd_of_mod_eq_zero e
 have h3:Nat.gcd f.num.natAbs f.den=f.den:=Nat.gcd_eq_right h2
 rw [Nat.Coprime] at h1
 omega
theorem fl_whole (f:Rat) (h:f.den=1):fl f=f.num∧((fl f:Int):Rat)=f:=by
 have e:fl f=f.num:=by unfold fl;rw [h];simp
 refine ⟨e,?_⟩
 rw [e]
 apply Rat.ext
 ·simp
 ·simp [h]
theorem fl_abs (f:Rat) (h:f.den≠1):fl f=sgn (decide (f.num<0)) (if f.num<0 then f.num.natAbs/f.den+1 else f.num.natAbs/f.den):=by
 have hq:=den_pos f
 unfold fl
 by_cases hn:f.num<0
 ·have e:f.num=-((f.num.natAbs:Nat):Int):=by omega
  rw [if_pos hn,decide_eq_true hn,e,Int.natAbs_neg,Int.natAbs_natCast,fl_below _ _ hq (cop_mod h)]
  simp [sgn]
 ·have e:f.num=((f.num.natAbs:Nat):Int):=by omega
  rw [if_neg hn,decide_eq_false hn,e,Int.natAbs_natCast]
  simp [sgn]
theorem fracWhole_any (v:Value) (f:Rat) (w:World) (hf:am w v f) (hl:(wd 18446744073709551616 f.den).length<2147483648) (r:Bool) (hr:Hid (r=decide (f.den=1))) :
  Calls Tryz.prog 201 #[v] w fun e w'=>e=.returned (.bool r)∧But [] w w':=by
 have hq0:=den_pos f
 rcases hf with ⟨hp,hq,rfl⟩ | ⟨hbig,b,v1,v2,rfl,hc0,hc1,hs1,hs2⟩
 ·generalize decide (f.num<0)=s
  generalize f.num.natAbs=p at *
  generalize f.den=q at *
  have er:Hid (r=(((q:Int)-1)==0)):=by
   show _=_
   rw [ae hr,Bool.eq_iff_iff,decide_eq_true_iff,beq_iff_eq]
   omega
  have h0:(0:Int)≤(q:Int)-1:=by omega
  have h1:(q:Int)-1<18446744073709551616:=by omega
  generalize (q:Int)-1=z at *
  clear hr hl hq hq0
  go_enter Tryz.func201,Tryz.ntmps201
  go_wp2
  go_ret
  exact ⟨by rw [ae er];rfl,(But.refl _ _).alloc _⟩
 ·have ON:Hid (∀ W,But [] w W→Calls Tryz.prog 123 #[v2] W fun e w'=>e=.returned (.bool r)∧w'=W):=fun W hb=>natOne_any v2 _ W (hs2.ah hb) hl r hr
  obtain ⟨a2,e2,rfl,-,-⟩:=hs2
  clear hs1 hbig hr hl hq0
  generalize (wd 18446744073709551616 f.den).length=n2 at *
  generalize decide (f.num<0)=s
  have hbl:b<w.heap.size:=ai hc0
  clear hc0
  go_enter Tryz.func201,Tryz.ntmps201
  go_wp2_with fail
  refine (ae ON _ ((But.refl _ _).alloc _)).mono ?_
  rintro e w1 ⟨rfl,hw⟩
  obtain rfl:=hw.symm
  clear hw
  go_wp2
  go_ret
  exact ⟨rfl,(But.refl _ _).alloc _⟩
theorem int_at {W:World} {n:Int} {s:Bool} {p:Nat} (hn:n=sgn s p) (hp:p < 18446744073709551616) (hs:s=true→p≠0):am W (.agg #[.bool s,.int .u64 (p:Int),.int .u64 0,.pointer none]) ((n:Int):Rat):=by
 have h1:((n:Int):Rat).num=n:=by simp
 have h2:((n:Int):Rat).den=1:=by simp
 unfold am
 rw [h1,h2,hn,sgn_abs,sgn_neg]
 refine .inl ⟨hp,by omega,?_⟩
 cases s
 ·rfl
 ·have:=hs rfl
  simp [this]
theorem floor_words (f:Rat) (w:World) (hp:f.num.natAbs < 18446744073709551616) (hq:f.den < 18446744073709551616) :
  Calls Tryz.prog 188 #[.agg #[.bool (decide (f.num<0)),.int .u64 (f.num.natAbs:Int),.int .u64 ((f.den:Int)-1),.pointer none]] w fun e w'=>∃ v',e=.returned v'∧am w' v' ((fl f:Int):Rat)∧But [] w w':=by
 have hq0:=den_pos f
 have hfa:am w (.agg #[.bool (decide (f.num<0)),.int .u64 (f.num.natAbs:Int),.int .u64 ((f.den:Int)-1),.pointer none]) f:=.inl ⟨hp,hq,rfl⟩
 have WH:=af (fun W (hb:But [] w W)=>fracWhole_any _ f W (hfa.but hb) (by have:=aj (B:=18446744073709551616) (by omega) f.den 1 (by rw [Nat.pow_one];exact hq);omega) (decide (f.den=1)) rfl)
 by_cases h1:f.den=1
 ·have e1:decide (f.den=1)=true:=decide_eq_true h1
  rw [e1] at WH
  have FIN:Hid (∀ W,am W (.agg #[.bool (decide (f.num<0)),.int .u64 (f.num.natAbs:Int),.int .u64 ((f.den:Int)-1),.pointer none]) ((fl f:Int):Rat)):=fun W=>by rw [(fl_whole f h1).2];exact .inl ⟨hp,hq,rfl⟩
  clear hfa e1 h1
  generalize decide (f.num<0)=s at *
  generalize f.num.natAbs=p at *
  generalize (f.den:Int)-1=z at *
  obtain ⟨W,hW⟩:∃ W,W=((w.alloc (.cells #[.bool s,.int .u64 (p:Int),.int .u64 z,.pointer none] 29)).alloc (.cells #[.bool false,.int .u64 0,.int .u64 0,.pointer none] 29)):=⟨_,rfl⟩
  obtain ⟨tA,tC,fz,hB⟩:=two_new w W _ _ _ hW
  have a0:=tA 0
  have a1:=tA 1
  have a2:=tA 2
  have a3:=tA 3
  have r0:=tC 0
  have r1:=tC 1
  have r2:=tC 2
  have r3:=tC 3
  simp only [List.getElem?_toArray,List.getElem?_cons_zero,List.getElem?_cons_succ] at a0 a1 a2 a3 r0 r1 r2 r3
  clear tA tC
  have HW:=af hW
  have HB:=af hB
  clear hW hB
  go_enter Tryz.func188,Tryz.ntmps188
  go_wp2_with fail
  rw [← ae HW]
  obtain ⟨ga,hga⟩:∃ ga,ga=w.heap.size:=⟨_,rfl⟩
  obtain ⟨gr,hgr⟩:∃ gr,gr=w.heap.size+1:=⟨_,rfl⟩
  rw [← hga] at a0 a1 a2 a3
  rw [← hgr] at r0 r1 r2 r3 fz
  rw [← hgr,← hga]
  have HGR:Hid (w.heap.size≤gr):=by show _≤_;omega
  have nga:ga≠gr:=by omega
  clear hga hgr HW
  have grl:gr<W.heap.size:=ai r0
  refine (ae WH _ (ae HB)).mono ?_
  rintro e w1 ⟨rfl,hb1⟩
  have uf:∀ j,w1.frozen? ⟨gr,j,none⟩=false:=fun j=>(hb1.frozen (p:=⟨gr,j,none⟩) grl (by simp)).trans (fz j)
  have m0:=hb1.ag a0 (by simp)
  have m1:=hb1.ag a1 (by simp)
  have m2:=hb1.ag a2 (by simp)
  have m3:=hb1.ag a3 (by simp)
  have u0:=hb1.ag r0 (by simp)
  have u1:=hb1.ag r1 (by simp)
  have u2:=hb1.ag r2 (by simp)
  have u3:=hb1.ag r3 (by simp)
  have HB1:Hid (But [] w w1):=(ae HB).trans' hb1
  clear hb1 a0 a1 a2 a3 r0 r1 r2 r3 fz grl
  go_wp2
  have hBf:=((((ae HB1).setCell (p:=⟨gr,0,none⟩) (.inr (ae HGR)) (.bool s)).setCell (p:=⟨gr,1,none⟩) (.inr (ae HGR)) (.int .u64 (p:Int))).setCell (p:=⟨gr,2,none⟩) (.inr (ae HGR)) (.int .u64 z)).setCell (p:=⟨gr,3,none⟩) (.inr (ae HGR)) (.pointer none)
  exact bodyPost_ret (v:=.agg #[.bool s,.int .u64 (p:Int),.int .u64 z,.pointer none]) (by simp [results,Tryz.results188,go_sem,u0,u1,u2,u3]) rfl ⟨_,rfl,ae FIN _,hBf⟩
 ·have e1:decide (f.den=1)=false:=decide_eq_false h1
  rw [e1] at WH
  have hfl:=fl_abs f h1
  obtain ⟨d,hd⟩:∃ d,d=f.num.natAbs/f.den:=⟨_,rfl⟩
  have hdq:d≤f.num.natAbs/2:=by rw [hd];exact Nat.div_le_div_left (by omega) (by omega)
  rw [← hd] at hfl
  have hd2:d<9223372036854775808:=by omega
  have FIN:Hid (∀ W,am W (.agg #[.bool (decide (f.num<0)),.int .u64 (((if f.num<0 then d+1 else d:Nat)):Int),.int .u64 0,.pointer none]) ((fl f:Int):Rat)):=fun W=>int_at hfl (by split <;> omega) (fun e=>by rw [if_pos (of_decide_eq_true e)];omega)
  have UN:=af (fun W=>under_any (decide (f.num<0)) f.num.natAbs f.den hq hq0 W)
  have D1:(f.num.natAbs:Int)/(f.den:Int)=(d:Int):=by rw [hd];exact (Int.natCast_ediv _ _).symm
  have T1:(f.num.natAbs:Int).tdiv (f.den:Int)=(d:Int):=by rw [Int.tdiv_eq_ediv_of_nonneg (by omega)];exact D1
  have W1:IntKind.u64.wrap (d:Int)=(d:Int):=by rw [IntKind.wrap_u64];omega
  have z1:((f.den:Int)==0)=false:=beq_eq_false_iff_ne.2 (by omega)
  clear hfa e1 hfl hdq hd
  by_cases hn:f.num<0
  ·rw [if_pos hn,decide_eq_true hn] at FIN
   rw [decide_eq_true hn] at WH UN ⊢
   have OW:=af (fun W=>ofWords_any true (d+1) 1 (by omega) (by omega) (by omega) true (by show true=_;simp) W)
   clear hn h1
   generalize f.num.natAbs=p at *
   generalize hqq:f.den=q at *
   clear hqq
   obtain ⟨W,hW⟩:∃ W,W=((w.alloc (.cells #[.bool true,.int .u64 (p:Int),.int .u64 ((q:Int)-1),.pointer none] 29)).alloc (.cells #[.bool false,.int .u64 0,.int .u64 0,.pointer none] 29)):=⟨_,rfl⟩
   obtain ⟨tA,tC,fz,hB⟩:=two_new w W _ _ _ hW
   have a0:=tA 0
   have a1:=tA 1
   have a2:=tA 2
   have a3:=tA 3
   have r0:=tC 0
   have r1:=tC 1
   have r2:=tC 2
   have r3:=tC 3
   simp only [List.getElem?_toArray,List.getElem?_cons_zero,List.getElem?_cons_succ] at a0 a1 a2 a3 r0 r1 r2 r3
   clear tA tC
   have HW:=af hW
   have HB:=af hB
   clear hW hB
   go_enter Tryz.func188,Tryz.ntmps188
   go_wp2_with fail
   rw [← ae HW]
   obtain ⟨ga,hga⟩:∃ ga,ga=w.heap.size:=⟨_,rfl⟩
   obtain ⟨gr,hgr⟩:∃ gr,gr=w.heap.size+1:=⟨_,rfl⟩
   rw [← hga] at a0 a1 a2 a3
   rw [← hgr] at r0 r1 r2 r3 fz
   rw [← hgr,← hga]
   have HGR:Hid (w.heap.size≤gr):=by show _≤_;omega
   have nga:ga≠gr:=by omega
   clear hga hgr HW
   have grl:gr<W.heap.size:=ai r0
   refine (ae WH _ (ae HB)).mono ?_
   rintro e w1 ⟨rfl,hb1⟩
   have uf:∀ j,w1.frozen? ⟨gr,j,none⟩=false:=fun j=>(hb1.frozen (p:=⟨gr,j,none⟩) grl (by simp)).trans (fz j)
   have m0:=hb1.ag a0 (by simp)
   have m1:=hb1.ag a1 (by simp)
   have m2:=hb1.ag a2 (by simp)
   have m3:=hb1.ag a3 (by simp)
   have u0:=hb1.ag r0 (by simp)
   have u1:=hb1.ag r1 (by simp)
   have u2:=hb1.ag r2 (by simp)
   have u3:=hb1.ag r3 (by simp)
   have HB1:Hid (But [] w w1):=(ae HB).trans' hb1
   clear hb1 a0 a1 a2 a3 r0 r1 r2 r3 fz grl
   go_wp2_with fail
   go_region_held (fun w'=>w'.cell? ⟨ga,0,none⟩=some (.bool true)∧w'.cell? ⟨ga,1,none⟩=some (.int .u64 (p:Int))∧w'.cell? ⟨ga,2,none⟩=some (.int .u64 ((q:Int)-1))∧w'.cell? ⟨ga,3,none⟩=some (.pointer none)) (go_keep) (first
    | (go_at_call 126;refine (ae UN _).mono ?_;rintro e wu1 ⟨rfl,hcu1⟩;have Bu1:But [] w1 wu1:=(by first | exact hcu1 | exact (But.refl _ _).drew.trans' hcu1);clear hcu1;have m0_u1:=Bu1.ag m0 (by simp);have m1_u1:=Bu1.ag m1 (by simp);have m2_u1:=Bu1.ag m2 (by simp);have m3_u1:=Bu1.ag m3 (by simp)))
   have HB2:Hid (But [] w wu1):=(ae HB1).trans' Bu1
   have gl2:gr<w1.heap.size:=ai u0
   have vf:∀ j,wu1.frozen? ⟨gr,j,none⟩=false:=fun j=>(Bu1.frozen (p:=⟨gr,j,none⟩) gl2 (by simp)).trans (uf j)
   have v0:=Bu1.ag u0 (by simp)
   have v1:=Bu1.ag u1 (by simp)
   have v2:=Bu1.ag u2 (by simp)
   have v3:=Bu1.ag u3 (by simp)
   clear Bu1 m0 m1 m2 m3 u0 u1 u2 u3 uf gl2 UN
   go_wp2_with fail
   refine (ae OW _).mono ?_
   rintro e w3 ⟨rfl,hb3⟩
   have gl3:gr<wu1.heap.size:=ai v0
   have xf:∀ j,w3.frozen? ⟨gr,j,none⟩=false:=fun j=>(hb3.frozen (p:=⟨gr,j,none⟩) gl3 (by simp)).trans (vf j)
   have x0:=hb3.ag v0 (by simp)
   have x1:=hb3.ag v1 (by simp)
   have x2:=hb3.ag v2 (by simp)
   have x3:=hb3.ag v3 (by simp)
   have HB3:Hid (But [] w w3):=(ae HB2).trans' hb3
   clear hb3 v0 v1 v2 v3 vf gl3
   go_wp2
   have hBf:=((((ae HB3).setCell (p:=⟨gr,0,none⟩) (.inr (ae HGR)) (.bool true)).setCell (p:=⟨gr,1,none⟩) (.inr (ae HGR)) (.int .u64 ((d+1:Nat):Int))).setCell (p:=⟨gr,2,none⟩) (.inr (ae HGR)) (.int .u64 0)).setCell (p:=⟨gr,3,none⟩) (.inr (ae HGR)) (.pointer none)
   exact bodyPost_ret (v:=.agg #[.bool true,.int .u64 ((d+1:Nat):Int),.int .u64 0,.pointer none]) (by simp [results,Tryz.results188,go_sem,x0,x1,x2,x3]) rfl ⟨_,rfl,ae FIN _,hBf⟩
  ·rw [if_neg hn,decide_eq_false hn] at FIN
   rw [decide_eq_false hn] at WH UN ⊢
   have OW:=af (fun W=>ofWords_any false d 1 (by omega) (by omega) (by omega) false (by show false=_;simp) W)
   clear hn h1
   generalize f.num.natAbs=p at *
   generalize hqq:f.den=q at *
   clear hqq
   obtain ⟨W,hW⟩:∃ W,W=((w.alloc (.cells #[.bool false,.int .u64 (p:Int),.int .u64 ((q:Int)-1),.pointer none] 29)).alloc (.cells #[.bool false,.int .u64 0,.int .u64 0,.pointer none] 29)):=⟨_,rfl⟩
   obtain ⟨tA,tC,fz,hB⟩:=two_new w W _ _ _ hW
   have a0:=tA 0
   have a1:=tA 1
   have a2:=tA 2
   have a3:=tA 3
   have r0:=tC 0
   have r1:=tC 1
   have r2:=tC 2
   have r3:=tC 3
   simp only [List.getElem?_toArray,List.getElem?_cons_zero,List.getElem?_cons_succ] at a0 a1 a2 a3 r0 r1 r2 r3
   clear tA tC
   have HW:=af hW
   have HB:=af hB
   clear hW hB
   go_enter Tryz.func188,Tryz.ntmps188
   go_wp2_with fail
   rw [← ae HW]
   obtain ⟨ga,hga⟩:∃ ga,ga=w.heap.size:=⟨_,rfl⟩
   obtain ⟨gr,hgr⟩:∃ gr,gr=w.heap.size+1:=⟨_,rfl⟩
   rw [← hga] at a0 a1 a2 a3
   rw [← hgr] at r0 r1 r2 r3 fz
   rw [← hgr,← hga]
   have HGR:Hid (w.heap.size≤gr):=by show _≤_;omega
   have nga:ga≠gr:=by omega
   clear hga hgr HW
   have grl:gr<W.heap.size:=ai r0
   refine (ae WH _ (ae HB)).mono ?_
   rintro e w1 ⟨rfl,hb1⟩
   have uf:∀ j,w1.frozen? ⟨gr,j,none⟩=false:=fun j=>(hb1.frozen (p:=⟨gr,j,none⟩) grl (by simp)).trans (fz j)
   have m0:=hb1.ag a0 (by simp)
   have m1:=hb1.ag a1 (by simp)
   have m2:=hb1.ag a2 (by simp)
   have m3:=hb1.ag a3 (by simp)
   have u0:=hb1.ag r0 (by simp)
   have u1:=hb1.ag r1 (by simp)
   have u2:=hb1.ag r2 (by simp)
   have u3:=hb1.ag r3 (by simp)
   have HB1:Hid (But [] w w1):=(ae HB).trans' hb1
   clear hb1 a0 a1 a2 a3 r0 r1 r2 r3 fz grl
   go_wp2_with fail
   go_region_held (fun w'=>w'.cell? ⟨ga,0,none⟩=some (.bool false)∧w'.cell? ⟨ga,1,none⟩=some (.int .u64 (p:Int))∧w'.cell? ⟨ga,2,none⟩=some (.int .u64 ((q:Int)-1))∧w'.cell? ⟨ga,3,none⟩=some (.pointer none)) (go_keep) (first
    | (go_at_call 126;refine (ae UN _).mono ?_;rintro e wu1 ⟨rfl,hcu1⟩;have Bu1:But [] w1 wu1:=(by first | exact hcu1 | exact (But.refl _ _).drew.trans' hcu1);clear hcu1;have m0_u1:=Bu1.ag m0 (by simp);have m1_u1:=Bu1.ag m1 (by simp);have m2_u1:=Bu1.ag m2 (by simp);have m3_u1:=Bu1.ag m3 (by simp)))
   have HB2:Hid (But [] w wu1):=(ae HB1).trans' Bu1
   have gl2:gr<w1.heap.size:=ai u0
   have vf:∀ j,wu1.frozen? ⟨gr,j,none⟩=false:=fun j=>(Bu1.frozen (p:=⟨gr,j,none⟩) gl2 (by simp)).trans (uf j)
   have v0:=Bu1.ag u0 (by simp)
   have v1:=Bu1.ag u1 (by simp)
   have v2:=Bu1.ag u2 (by simp)
   have v3:=Bu1.ag u3 (by simp)
   clear Bu1 m0 m1 m2 m3 u0 u1 u2 u3 uf gl2 UN
   go_wp2_with fail
   refine (ae OW _).mono ?_
   rintro e w3 ⟨rfl,hb3⟩
   have gl3:gr<wu1.heap.size:=ai v0
   have xf:∀ j,w3.frozen? ⟨gr,j,none⟩=false:=fun j=>(hb3.frozen (p:=⟨gr,j,none⟩) gl3 (by simp)).trans (vf j)
   have x0:=hb3.ag v0 (by simp)
   have x1:=hb3.ag v1 (by simp)
   have x2:=hb3.ag v2 (by simp)
   have x3:=hb3.ag v3 (by simp)
   have HB3:Hid (But [] w w3):=(ae HB2).trans' hb3
   clear hb3 v0 v1 v2 v3 vf gl3
   go_wp2
   have hBf:=((((ae HB3).setCell (p:=⟨gr,0,none⟩) (.inr (ae HGR)) (.bool false)).setCell (p:=⟨gr,1,none⟩) (.inr (ae HGR)) (.int .u64 (d:Int))).setCell (p:=⟨gr,2,none⟩) (.inr (ae HGR)) (.int .u64 0)).setCell (p:=⟨gr,3,none⟩) (.inr (ae HGR)) (.pointer none)
   exact bodyPost_ret (v:=.agg #[.bool false,.int .u64 (d:Int),.int .u64 0,.pointer none]) (by simp [results,Tryz.results188,go_sem,x0,x1,x2,x3]) rfl ⟨_,rfl,ae FIN _,hBf⟩
end Go.Proofs.YtlckjpelcmjimaaGreatDoor
