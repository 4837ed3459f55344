/- A fraction's text, as the Go text of pac -/
import Derived.Test.YtlckjpelcmjimaaGreatDoorKPC1
import Derived.Test.YtlckjpelcmjimaaGreatDoorKPF10
import Derived.Test.YtlckjpelcmjimaaGreatDoorKPF13
import Derived.Test.YtlckjpelcmjimaaGreatDoorKPFW
namespace Go.Proofs.YtlckjpelcmjimaaGreatDoor
open Go.RowKit
set_option maxHeartbeats 16000000
set_option maxRecDepth 100000
def fracTxt (s:Bool) (p q:Nat):ByteArray:=(if s then ⟨#[45]⟩++⟨(Lib.decDigits p).toArray⟩ else ⟨(Lib.decDigits p).toArray⟩)++(if q=1 then ⟨#[]⟩ else ⟨#[47]⟩++⟨(Lib.decDigits q).toArray⟩)
theorem dec_short (u:Nat) (h:(wd 18446744073709551616 u).length≤1000000):(Lib.decDigits u).length≤20000000:=by
 rcases Nat.eq_zero_or_pos u with rfl | h0
 ·rw [Lib.decDigits_length,Lib.nDigits_small (by omega)];omega
 ·rw [← rdig_rev u h0,List.length_reverse];exact dig_len u 1000000 h
theorem ba_nil (t:ByteArray):t++⟨#[]⟩=t:=by
 cases t;simp [ByteArray.ext_iff]
theorem fracText_len (v:Value) (f:Rat) (w:World) (hf:am w v f) (hL:Len f 1000000) (htab:Lib.TabIs Tryz.prog w "internal/strconv.uint64pow10" .u64 Lib.pow10Tab) (t:ByteArray) (ht:Hid (t=fracTxt (decide (f.num<0)) f.num.natAbs f.den)) :
  Calls Tryz.prog 59 #[v] w fun e w'=>e=.returned (.string t)∧But [] w w':=by
 have hq0:=den_pos f
 obtain ⟨hN,hD⟩:=hL
 obtain ⟨tp,htp⟩:∃ tp:ByteArray,tp=⟨(Lib.decDigits f.num.natAbs).toArray⟩:=⟨_,rfl⟩
 obtain ⟨tq,htq⟩:∃ tq:ByteArray,tq=⟨(Lib.decDigits f.den).toArray⟩:=⟨_,rfl⟩
 have sp:tp.size≤20000000:=by rw [htp];exact dec_short _ hN
 have sq:tq.size≤20000000:=by rw [htq];exact dec_short _ hD
 have HNU:Hid (∀ W,But [] w W→Calls Tryz.prog 67 #[v] W fun e w'=>∃ v1 v2,e=.returned (.tuple #[v1,v2])∧Sl .u64 w' v1 (wd 18446744073709551616 f.num.natAbs)∧Sl .u64 w' v2 (wd 18446744073709551616 f.den)∧But [] W w'):=fun W hb=>numbers_any v f W (hf.but hb)
 have T1:Hid (∀ W v1,But [] w W→Sl .u64 W v1 (wd 18446744073709551616 f.num.natAbs)→Calls Tryz.prog 122 #[v1] W fun e w'=>e=.returned (.string tp)∧But [] W w'):=fun W v1 hb h=>natText_all v1 _ W h hN (TabIs.but htab hb) tp htp
 have T2:Hid (∀ W v1,But [] w W→Sl .u64 W v1 (wd 18446744073709551616 f.den)→Calls Tryz.prog 122 #[v1] W fun e w'=>e=.returned (.string tq)∧But [] W w'):=fun W v1 hb h=>natText_all v1 _ W h hD (TabIs.but htab hb) tq htq
 have HT:Hid (t=(if decide (f.num<0) then ⟨#[45]⟩++tp else tp)++(if f.den=1 then ⟨#[]⟩ else ⟨#[47]⟩++tq)):=by show _=_;rw [ae ht,fracTxt,htp,htq]
 have ONE:Hid (∀ W v1 (r:Bool),Hid (r=decide (f.den=1))→Sl .u64 W v1 (wd 18446744073709551616 f.den)→Calls Tryz.prog 123 #[v1] W fun e w'=>e=.returned (.bool r)∧w'=W):=fun W v1 r hr h=>natOne_any v1 _ W h (by omega) r hr
 obtain ⟨x,y,p,rfl,-⟩:=hf.agg
 have hbw:But [] w (w.alloc (.cells #[.bool (decide (f.num<0)),.int .u64 x,.int .u64 y,.pointer p] 29)):=(But.refl _ _).alloc _
 clear htp htq ht htab hN hD hf
 generalize hs:decide (f.num<0)=s at *
 clear hs
 go_enter Tryz.func59,Tryz.ntmps59
 go_wp2_with fail
 refine (ae HNU _ hbw).mono ?_
 rintro e w1 ⟨v1,v2,rfl,hv1,hv2,hb1⟩
 have B1:=af (hbw.trans' hb1)
 have HV1:=af hv1
 have HV2:=af hv2
 have c0:=hb1.ag (show (w.alloc (.cells #[.bool s,.int .u64 x,.int .u64 y,.pointer p] 29)).cell? ⟨w.heap.size,0,none⟩=some (.bool s) by simp) (by simp)
 clear hv1 hv2 hb1
 go_wp2_with fail
 refine (ae T1 _ v1 (ae B1) (ae HV1)).mono ?_
 rintro e w2 ⟨rfl,hb2⟩
 have d0:=hb2.ag c0 (by simp)
 have B2:Hid (But [] w w2):=(ae B1).trans' hb2
 have HV3:=af ((ae HV2).ah hb2)
 clear hb2 c0 HV2 hbw
 cases s
 all_goals
  go_wp2_with fail
  by_cases hq1:f.den=1
  ·refine (ae ONE _ v2 true (by show true=_;simp [hq1]) (ae HV3)).mono ?_
   rintro e w3 ⟨rfl,hw⟩
   obtain rfl:=hw.symm
   clear hw
   go_wp2
   go_ret
   exact ⟨by rw [ae HT,if_pos hq1,ba_nil];rfl,ae B2⟩
  ·refine (ae ONE _ v2 false (by show false=_;simp [hq1]) (ae HV3)).mono ?_
   rintro e w3 ⟨rfl,hw⟩
   obtain rfl:=hw.symm
   clear hw
   go_wp2_with fail
   refine (ae T2 _ v2 (ae B2) (ae HV3)).mono ?_
   rintro e w3 ⟨rfl,hb3⟩
   go_wp2
   go_ret
   exact ⟨by rw [ae HT,if_neg hq1];rfl,(ae B2).trans' hb3⟩
theorem rat_ex (s:Bool) (p q:Nat) (hq:0<q) (hc:Nat.Coprime p q):∃ f:Rat,f.num=sgn s p∧f.den=q :=
 ⟨⟨sgn s p,q,by omega,by rw [sgn_abs];exact hc⟩,rfl,rfl⟩
theorem gcd_cop (x y:Nat) (hy:0<y):Nat.Coprime (x/Nat.gcd x y) (y/Nat.gcd x y):=Nat.coprime_div_gcd_div_gcd (Nat.gcd_pos_of_pos_right _ hy)
theorem len_of {f:Rat} {m n:Nat} (h1:f.num.natAbs < 18446744073709551616^m) (h2:f.den < 18446744073709551616^n) (k:Nat) (hm:m≤k) (hn:n≤k):Len f k :=
 ⟨Nat.le_trans (aj (by omega) _ _ h1) hm,Nat.le_trans (aj (by omega) _ _ h2) hn⟩
theorem Len.mono {f:Rat} {m n:Nat} (h:Len f m) (hn:m≤n):Len f n:=⟨Nat.le_trans h.1 hn,Nat.le_trans h.2 hn⟩
theorem Len.lt {f:Rat} {m:Nat} (h:Len f m):f.num.natAbs < 18446744073709551616^m∧f.den < 18446744073709551616^m:=⟨ak (by omega) _ _ h.1,ak (by omega) _ _ h.2⟩
theorem len_mul {f g:Rat} {m n:Nat} (h1:Len f m) (h2:Len g n) (k:Nat) (hk:m+n≤k):Len (f*g) k:=by
 obtain ⟨a1,a2⟩:=h1.lt
 obtain ⟨c1,c2⟩:=h2.lt
 obtain ⟨e1,e2⟩:=mul_low f g _ _ rfl rfl
 refine len_of (m:=m+n) (n:=m+n) ?_ ?_ k hk hk
 ·rw [e1,sgn_abs,Nat.pow_add]
  exact Nat.mul_lt_mul'' (Nat.lt_of_le_of_lt (Nat.div_le_self _ _) a1) (Nat.lt_of_le_of_lt (Nat.div_le_self _ _) c1)
 ·rw [e2,Nat.pow_add]
  exact Nat.mul_lt_mul'' (Nat.lt_of_le_of_lt (Nat.div_le_self _ _) a2) (Nat.lt_of_le_of_lt (Nat.div_le_self _ _) c2)
theorem len_add {f g:Rat} {m n:Nat} (h1:Len f m) (h2:Len g n) (k:Nat) (hk:m+n+1≤k):Len (f+g) k:=by
 obtain ⟨a1,a2⟩:=h1.lt
 obtain ⟨c1,c2⟩:=h2.lt
 obtain ⟨M,s,hM⟩:∃ (M:Nat) (s:Bool),f.num*(g.den/Nat.gcd f.den g.den:Nat)+g.num*(f.den/Nat.gcd f.den g.den:Nat)=sgn s M:=by
  generalize f.num*(g.den/Nat.gcd f.den g.den:Nat)+g.num*(f.den/Nat.gcd f.den g.den:Nat)=z
  by_cases hz:z<0
  ·exact ⟨z.natAbs,true,by simp [sgn];omega⟩
  ·exact ⟨z.natAbs,false,by simp [sgn];omega⟩
 obtain ⟨e1,e2⟩:=add_low f g s M _ _ rfl rfl hM
 have hMl:M < 18446744073709551616^(m+n+1):=by
  have h3:M≤f.num.natAbs*(g.den/Nat.gcd f.den g.den)+g.num.natAbs*(f.den/Nat.gcd f.den g.den):=by
   rw [← sgn_abs s M,← hM]
   refine Nat.le_trans (Int.natAbs_add_le _ _) ?_
   rw [Int.natAbs_mul,Int.natAbs_mul,Int.natAbs_natCast,Int.natAbs_natCast]
   exact Nat.le_refl _
  have h4:f.num.natAbs*(g.den/Nat.gcd f.den g.den) < 18446744073709551616^m * 18446744073709551616^n:=Nat.mul_lt_mul'' a1 (Nat.lt_of_le_of_lt (Nat.div_le_self _ _) c2)
  have h5:g.num.natAbs*(f.den/Nat.gcd f.den g.den) < 18446744073709551616^n * 18446744073709551616^m:=Nat.mul_lt_mul'' c1 (Nat.lt_of_le_of_lt (Nat.div_le_self _ _) a2)
  rw [Nat.mul_comm (18446744073709551616^n)] at h5
  rw [Nat.pow_succ,Nat.pow_add]
  generalize 18446744073709551616^m * 18446744073709551616^n=P at *
  omega
 refine len_of (m:=m+n+1) (n:=m+n) ?_ ?_ k hk (by omega)
 ·rw [e1,sgn_abs];exact Nat.lt_of_le_of_lt (Nat.div_le_self _ _) hMl
 ·rw [e2,Nat.pow_add]
  exact Nat.mul_lt_mul'' (Nat.lt_of_le_of_lt (Nat.div_le_self _ _) a2) (Nat.lt_of_le_of_lt (Nat.div_le_self _ _) c2)
theorem len_neg {f:Rat} {m:Nat} (h:Len f m):Len (-f) m:=by
 unfold Len
 rw [Rat.neg_num,Rat.neg_den,Int.natAbs_neg]
 exact h
theorem len_sub {f g:Rat} {m n:Nat} (h1:Len f m) (h2:Len g n) (k:Nat) (hk:m+n+1≤k):Len (f-g) k:=by
 rw [Rat.sub_eq_add_neg];exact len_add h1 (len_neg h2) k hk
theorem len_inv {f:Rat} {m:Nat} (h:Len f m) (h0:f.num≠0):Len f⁻¹ m:=by
 obtain ⟨i1,i2,-⟩:=inv_facts f h0
 unfold Len
 rw [i1,i2]
 exact ⟨h.2,h.1⟩
theorem len_div {f g:Rat} {m n:Nat} (h1:Len f m) (h2:Len g n) (h0:g.num≠0) (k:Nat) (hk:m+n≤k):Len (f/g) k:=by
 rw [Rat.div_def];exact len_mul h1 (len_inv h2 h0) k hk
theorem of_rel (x y:Int) (p q k:Nat) (hx:x.natAbs=p*k) (hy:y.natAbs=q*k):sgn (decide (x<0) != decide (y<0)) p*y=x*q:=by
 have ex:x=sgn (decide (x<0)) (p*k):=by
  by_cases h:x<0
  ·simp [sgn,h];omega
  ·simp [sgn,h];omega
 have ey:y=sgn (decide (y<0)) (q*k):=by
  by_cases h:y<0
  ·simp [sgn,h];omega
  ·simp [sgn,h];omega
 generalize decide (x<0)=a at *
 generalize decide (y<0)=b at *
 rw [ex,ey]
 cases a <;> cases b <;> simp [sgn,Int.natCast_mul] <;> grind
theorem fracOf_at (x y:Int) (hx1:-9223372036854775808≤x) (hx2:x<9223372036854775808) (hy1:-9223372036854775808≤y) (hy2:y<9223372036854775808) (hy0:y≠0) :
  ∃ (f:Rat) (r:Bool) (p q:Int),Len f 1∧f.num*y=x*f.den∧(∀ W,am W (.agg #[.bool r,.int .u64 p,.int .u64 q,.pointer none]) f)∧∀ W,Calls Tryz.prog 47 #[.int .i64 x,.int .i64 y] W fun e w'=>e=.returned (.tuple #[.agg #[.bool r,.int .u64 p,.int .u64 q,.pointer none],.nilIface])∧But [] W w':=by
 have hyp:0<y.natAbs:=by omega
 have hg:0<Nat.gcd x.natAbs y.natAbs:=Nat.gcd_pos_of_pos_right _ hyp
 have hd1:=Nat.div_mul_cancel (Nat.gcd_dvd_left x.natAbs y.natAbs)
 have hd2:=Nat.div_mul_cancel (Nat.gcd_dvd_right x.natAbs y.natAbs)
 have hq0:0<y.natAbs/Nat.gcd x.natAbs y.natAbs:=Nat.div_pos (Nat.le_of_dvd hyp (Nat.gcd_dvd_right _ _)) hg
 have hpB:x.natAbs/Nat.gcd x.natAbs y.natAbs < 18446744073709551616:=Nat.lt_of_le_of_lt (Nat.div_le_self _ _) (by omega)
 have hqB:y.natAbs/Nat.gcd x.natAbs y.natAbs < 18446744073709551616:=Nat.lt_of_le_of_lt (Nat.div_le_self _ _) (by omega)
 obtain ⟨f,hn,hd⟩:=rat_ex (decide (x<0) != decide (y<0)) _ _ hq0 (gcd_cop x.natAbs y.natAbs hyp)
 have habs:f.num.natAbs=x.natAbs/Nat.gcd x.natAbs y.natAbs:=by rw [hn,sgn_abs]
 refine ⟨f,decide (f.num<0),(f.num.natAbs:Int),(f.den:Int)-1,?_,?_,fun W=>.inl ⟨by rw [habs];exact hpB,by rw [hd];exact hqB,rfl⟩,fun W=>?_⟩
 ·exact len_of (m:=1) (n:=1) (by rw [habs,Nat.pow_one];exact hpB) (by rw [hd,Nat.pow_one];exact hqB) 1 (Nat.le_refl _) (Nat.le_refl _)
 ·rw [hn,hd]
  exact of_rel x y _ _ _ hd1.symm hd2.symm
 ·rw [habs,hd]
  exact fracOf_any x y hx1 hx2 hy1 hy2 hy0 W _ _ _ (by show _=_;rw [hn,sgn_neg]) rfl rfl
theorem plainF_any (x y:Int) (hx1:-9223372036854775808≤x) (hx2:x<9223372036854775808) (hy1:-9223372036854775808≤y) (hy2:y<9223372036854775808) :
  ∃ (f:Rat) (r:Bool) (p q:Int),Len f 1∧f.num*(if y=0 then 1 else y)=x*f.den∧(∀ W,am W (.agg #[.bool r,.int .u64 p,.int .u64 q,.pointer none]) f)∧∀ W,Calls Tryz.prog 10 #[.agg #[.int .i64 x,.int .i64 y]] W fun e w'=>e=.returned (.agg #[.bool r,.int .u64 p,.int .u64 q,.pointer none])∧But [] W w':=by
 by_cases hy0:y=0
 ·subst hy0
  obtain ⟨f,r,p,q,h1,h2,h3,h4⟩:=fracOf_at x 1 hx1 hx2 (by omega) (by omega) (by omega)
  refine ⟨f,r,p,q,h1,by rw [if_pos rfl];exact h2,h3,fun w=>?_⟩
  have OF:=af h4
  clear h1 h2 h3 h4
  go_enter Tryz.func10,Tryz.ntmps10
  go_wp2_with fail
  obtain ⟨W,hW⟩:∃ W,W=(w.alloc (.cells #[.int .i64 x,.int .i64 1] 23)).alloc (.cells #[.bool false,.int .u64 0,.int .u64 0,.pointer none] 29):=⟨_,rfl⟩
  have r0:W.cell? ⟨w.heap.size+1,0,none⟩=some (.bool false):=by rw [hW];simp
  have r1:W.cell? ⟨w.heap.size+1,1,none⟩=some (.int .u64 0):=by rw [hW];simp
  have r2:W.cell? ⟨w.heap.size+1,2,none⟩=some (.int .u64 0):=by rw [hW];simp
  have r3:W.cell? ⟨w.heap.size+1,3,none⟩=some (.pointer none):=by rw [hW];simp
  have fz:∀ j,W.frozen? ⟨w.heap.size+1,j,none⟩=false:=fun j=>by rw [hW];simp
  have hB:But [] w W:=by rw [hW];exact ((But.refl _ _).alloc _).alloc _
  rw [← hW]
  clear hW
  obtain ⟨gr,hgr⟩:∃ gr,gr=w.heap.size+1:=⟨_,rfl⟩
  rw [← hgr] at r0 r1 r2 r3 fz
  rw [← hgr]
  have HGR:Hid (w.heap.size≤gr):=by show _≤_;omega
  clear hgr
  have grl:gr<W.heap.size:=ai r0
  refine (ae OF _).mono ?_
  rintro e w1 ⟨rfl,hb1⟩
  have u0:=hb1.ag r0 (by simp)
  have u1:=hb1.ag r1 (by simp)
  have u2:=hb1.ag r2 (by simp)
  have u3:=hb1.ag r3 (by simp)
  have uf:∀ j,w1.frozen? ⟨gr,j,none⟩=false:=fun j=>(hb1.frozen (p:=⟨gr,j,none⟩) grl (by simp)).trans (fz j)
  have HB1:Hid (But [] w w1):=hB.trans' hb1
  have gl1:gr<w1.heap.size:=ai u0
  clear hb1 hB r0 r1 r2 r3 fz grl
  go_wp2
  have hBf:=(((((ae HB1).setCell (p:=⟨gr,0,none⟩) (.inr (ae HGR)) (.bool r)).setCell (p:=⟨gr,1,none⟩) (.inr (ae HGR)) (.int .u64 p)).setCell (p:=⟨gr,2,none⟩) (.inr (ae HGR)) (.int .u64 q)).setCell (p:=⟨gr,3,none⟩) (.inr (ae HGR)) (.pointer none)).alloc (.cells #[.bool r,.int .u64 p,.int .u64 q,.pointer none] 29)
  exact bodyPost_ret (v:=.agg #[.bool r,.int .u64 p,.int .u64 q,.pointer none]) (by simp [results,Tryz.results10,go_sem,u0,u1,u2,u3,gl1]) rfl ⟨rfl,hBf⟩
 ·obtain ⟨f,r,p,q,h1,h2,h3,h4⟩:=fracOf_at x y hx1 hx2 hy1 hy2 hy0
  refine ⟨f,r,p,q,h1,by rw [if_neg hy0];exact h2,h3,fun w=>?_⟩
  have n0:(y==0)=false:=by simp [hy0]
  have OF:=af h4
  clear h1 h2 h3 h4
  go_enter Tryz.func10,Tryz.ntmps10
  go_wp2_with fail
  obtain ⟨W,hW⟩:∃ W,W=(w.alloc (.cells #[.int .i64 x,.int .i64 y] 23)).alloc (.cells #[.bool false,.int .u64 0,.int .u64 0,.pointer none] 29):=⟨_,rfl⟩
  have r0:W.cell? ⟨w.heap.size+1,0,none⟩=some (.bool false):=by rw [hW];simp
  have r1:W.cell? ⟨w.heap.size+1,1,none⟩=some (.int .u64 0):=by rw [hW];simp
  have r2:W.cell? ⟨w.heap.size+1,2,none⟩=some (.int .u64 0):=by rw [hW];simp
  have r3:W.cell? ⟨w.heap.size+1,3,none⟩=some (.pointer none):=by rw [hW];simp
  have fz:∀ j,W.frozen? ⟨w.heap.size+1,j,none⟩=false:=fun j=>by rw [hW];simp
  have hB:But [] w W:=by rw [hW];exact ((But.refl _ _).alloc _).alloc _
  rw [← hW]
  clear hW
  obtain ⟨gr,hgr⟩:∃ gr,gr=w.heap.size+1:=⟨_,rfl⟩
  rw [← hgr] at r0 r1 r2 r3 fz
  rw [← hgr]
  have HGR:Hid (w.heap.size≤gr):=by show _≤_;omega
  clear hgr
  have grl:gr<W.heap.size:=ai r0
  refine (ae OF _).mono ?_
  rintro e w1 ⟨rfl,hb1⟩
  have u0:=hb1.ag r0 (by simp)
  have u1:=hb1.ag r1 (by simp)
  have u2:=hb1.ag r2 (by simp)
  have u3:=hb1.ag r3 (by simp)
  have uf:∀ j,w1.frozen? ⟨gr,j,none⟩=false:=fun j=>(hb1.frozen (p:=⟨gr,j,none⟩) grl (by simp)).trans (fz j)
  have HB1:Hid (But [] w w1):=hB.trans' hb1
  have gl1:gr<w1.heap.size:=ai u0
  clear hb1 hB r0 r1 r2 r3 fz grl
  go_wp2
  have hBf:=(((((ae HB1).setCell (p:=⟨gr,0,none⟩) (.inr (ae HGR)) (.bool r)).setCell (p:=⟨gr,1,none⟩) (.inr (ae HGR)) (.int .u64 p)).setCell (p:=⟨gr,2,none⟩) (.inr (ae HGR)) (.int .u64 q)).setCell (p:=⟨gr,3,none⟩) (.inr (ae HGR)) (.pointer none)).alloc (.cells #[.bool r,.int .u64 p,.int .u64 q,.pointer none] 29)
  exact bodyPost_ret (v:=.agg #[.bool r,.int .u64 p,.int .u64 q,.pointer none]) (by simp [results,Tryz.results10,go_sem,u0,u1,u2,u3,gl1]) rfl ⟨rfl,hBf⟩
theorem bd (n:Int):((n:Int):Rat).num=n∧((n:Int):Rat).den=1:=⟨by simp,by simp⟩
theorem len_int (n:Int) (h:n.natAbs < 18446744073709551616):Len ((n:Int):Rat) 1:=by
 obtain ⟨h1,h2⟩:=bd n
 exact len_of (m:=1) (n:=1) (by rw [h1,Nat.pow_one];exact h) (by rw [h2];decide) 1 (Nat.le_refl _) (Nat.le_refl _)
theorem whole_is (x:Int) (h1:-9223372036854775808≤x) (h2:x<9223372036854775808) :
  ∃ (r:Bool) (p:Int),(∀ W,am W (.agg #[.bool r,.int .u64 p,.int .u64 0,.pointer none]) ((x:Int):Rat))∧∀ W,Calls Tryz.prog 27 #[.int .i64 x] W fun e w'=>e=.returned (.agg #[.bool r,.int .u64 p,.int .u64 0,.pointer none])∧But [] W w':=by
 obtain ⟨e1,e2⟩:=bd x
 refine ⟨decide (x<0),((x.natAbs:Nat):Int),fun W=>.inl ⟨by rw [e1];omega,by rw [e2];decide,by rw [e1,e2];rfl⟩,fun W=>?_⟩
 have h:=whole_any x h1 h2 W
 rw [show (((1:Nat):Int)-1)=0 from rfl] at h
 exact h
theorem den_times (x:Rat):x*((x.den:Int):Rat)=((x.num:Int):Rat):=by
 obtain ⟨i1,i2⟩:=bd (x.den:Int)
 obtain ⟨j1,j2⟩:=bd x.num
 have h:=cross_mul x ((x.den:Int):Rat)
 rw [i1,i2,Nat.mul_one] at h
 have hd:=den_pos x
 obtain ⟨e1,e2⟩:=rat_of_coprime x.num 1 (by omega) (by simp) (x*((x.den:Int):Rat)) (by
  refine Int.eq_of_mul_eq_mul_right (show (x.den:Int)≠0 by omega) ?_
  grind)
 exact Rat.ext (by rw [e1,j1]) (by rw [e2,j2])
theorem int_ne (z:Int) (h:z≠0):((z:Int):Rat)≠0:=fun e=>h (by
 have:=congrArg Rat.num e
 rwa [(bd z).1] at this)
def qf (q:Int × Int):Rat:=((q.1:Int):Rat)/(((if q.2=0 then 1 else q.2):Int):Rat)
theorem qf_of (f:Rat) (q:Int × Int) (h:f.num*(if q.2=0 then 1 else q.2)=q.1*f.den):f=qf q:=by
 unfold qf
 have hy:(if q.2=0 then (1:Int) else q.2)≠0:=by split <;> omega
 generalize (if q.2=0 then (1:Int) else q.2)=y at *
 have h1:=den_times f
 have h2:((f.num*y:Int):Rat)=((q.1*(f.den:Int):Int):Rat):=by rw [h]
 rw [Rat.intCast_mul,Rat.intCast_mul] at h2
 have hd:=int_ne (f.den:Int) (by have:=den_pos f;omega)
 have hy':=int_ne y hy
 generalize ((y:Int):Rat)=Y at *
 generalize ((f.den:Int):Rat)=D at *
 generalize ((f.num:Int):Rat)=M at *
 generalize ((q.1:Int):Rat)=X at *
 rw [← h1] at h2
 grind
def Fits (q:Int × Int):Prop:=-9223372036854775808≤q.1∧q.1<9223372036854775808∧-9223372036854775808≤q.2∧q.2<9223372036854775808
theorem plainF_at (q:Int × Int) (h:Fits q):∃ (r:Bool) (x y:Int),Len (qf q) 1∧(∀ W,am W (.agg #[.bool r,.int .u64 x,.int .u64 y,.pointer none]) (qf q))∧∀ W,Calls Tryz.prog 10 #[.agg #[.int .i64 q.1,.int .i64 q.2]] W fun e w'=>e=.returned (.agg #[.bool r,.int .u64 x,.int .u64 y,.pointer none])∧But [] W w':=by
 obtain ⟨f,r,x,y,h1,h2,h3,h4⟩:=plainF_any q.1 q.2 h.1 h.2.1 h.2.2.1 h.2.2.2
 have e:=qf_of f q h2
 subst e
 exact ⟨r,x,y,h1,h3,h4⟩
def QsAt (w:World) (v:Value) (qs:List (Int × Int)):Prop:=∃ a cap,v=.slice a qs.length cap∧qs.length≤cap∧∀ i q,qs[i]? = some q→∃ b off,a=some ⟨b,off,none⟩∧w.cell? ⟨b,off+i*2,none⟩=some (.int .i64 q.1)∧w.cell? ⟨b,off+i*2+1,none⟩=some (.int .i64 q.2)
theorem QsAt.but {w w':World} {v:Value} {qs:List (Int × Int)} (h:QsAt w v qs) (hb:But [] w w'):QsAt w' v qs:=by
 obtain ⟨a,cap,e,hc,h⟩:=h
 refine ⟨a,cap,e,hc,fun i q hq=>?_⟩
 obtain ⟨b,off,e1,h1,h2⟩:=h i q hq
 exact ⟨b,off,e1,hb.ag h1 (by simp),hb.ag h2 (by simp)⟩
theorem append_frac (w:World) (base:Nat) (v:Value) (k:Nat) (vs:List Value) (hown:w.ownsRow base 29 4 v k (parts4 vs)) (g:Nat) (s:Bool) (x y:Int) (p:Option Addr) (c:P4 w g s x y p) (hk:k<1000000) (hb:base≤w.heap.size) :
  ∃ v' w',(Builtin.append_ #[33,33] 33 #[v,.slice (some ⟨g,0,none⟩) 1 1]).run Tryz.prog w=.ok v' w'∧w'.ownsRow base 29 4 v' (k+1) (parts4 (vs++[.agg #[.bool s,.int .u64 x,.int .u64 y,.pointer p]]))∧w.grownBy w' v.ownBlock:=by
 obtain ⟨i0,hi,hz0,hz1,hz2⟩:=info_frac
 obtain ⟨v',w',hr,ho,hg,-⟩:=run_append_own (P:=Tryz.prog) w base 33 33 29 i0 _ 4 32 Tryz.underlying33 hi hz0 hz1 hz2 rfl (by decide) v k (parts4 vs) hown ⟨g,0,none⟩ 1 1 [.bool s,.int .u64 x,.int .u64 y,.pointer p] rfl (fun j u hj=>by
   have:j=0∨j=1∨j=2∨j=3∨4≤j:=by omega
   obtain ⟨c0,c1,c2,c3⟩:=c
   rcases this with rfl | rfl | rfl | rfl | h4
   ·simp at hj;subst hj;exact c0
   ·simp at hj;subst hj;exact c1
   ·simp at hj;subst hj;exact c2
   ·simp at hj;subst hj;exact c3
   ·rw [List.getElem?_eq_none (by simpa using h4)] at hj;simp at hj) (fun u hu=>by
   simp only [List.mem_cons,List.not_mem_nil,or_false] at hu
   rcases hu with rfl | rfl | rfl | rfl <;> rfl) (by unfold maxLen;omega) (by omega) hb
 refine ⟨v',w',hr,?_,hg⟩
 rw [parts4_append]
 exact ho
theorem ownsRow_form {w:World} {base:Nat} {e:TypeId} {size:Nat} {v:Value} {n:Nat} {xs:List Value} (h:w.ownsRow base e size v n xs):∃ a c,v=.slice a n c:=by
 rcases h.2 with ⟨rfl,h0⟩ | ⟨g,cap,cur,rfl,-⟩
 ·exact ⟨none,0,by rw [h0]⟩
 ·exact ⟨_,_,rfl⟩
theorem but_of_grown {w0 w w':World} {base:Nat} {e:TypeId} {size:Nat} {v:Value} {n:Nat} {xs:List Value} (h:But [] w0 w) (ho:w.ownsRow base e size v n xs) (hb:w0.heap.size≤base) (hg:w.grownBy w' v.ownBlock):But [] w0 w' :=
 ⟨hg.os.trans h.os,hg.tape.trans h.tape,hg.output.trans h.output,Nat.le_trans h.size hg.size,fun k hk _=>by
  rw [hg.block k (Nat.lt_of_lt_of_le hk h.size) (fun e=>by have:=(ho.lt k e.symm).1;omega)]
  exact h.block k hk (by simp)⟩
theorem ownsRow_but {w w':World} {base:Nat} {e:TypeId} {size:Nat} {v:Value} {n:Nat} {xs:List Value} (h:w.ownsRow base e size v n xs) (hb:But [] w w'):w'.ownsRow base e size v n xs :=
 h.kept (row:=none) ⟨hb.os,hb.tape,hb.output,hb.size,fun k hk _=>hb.block k hk (by simp)⟩ (by
  by_cases h0:v.ownBlock=none
  ·exact .inl h0
  ·exact .inr h0)
theorem plainFs_any (v:Value) (qs:List (Int × Int)) (w:World) (hq:QsAt w v qs) (hf:∀ q ∈ qs,Fits q) (hn:qs.length≤1000) :
  Calls Tryz.prog 57 #[v] w fun e w'=>∃ v' vs,e=.returned v'∧Holds4 w' w.heap.size 29 v' (qs.map qf) vs∧But [] w w':=by
 obtain ⟨a,cap,rfl,hcap,hc⟩:=hq
 obtain ⟨R,X,Y,hV⟩:∃ (R:Nat→Bool) (X Y:Nat→Int),∀ i,i<qs.length→(∀ W,am W (.agg #[.bool (R i),.int .u64 (X i),.int .u64 (Y i),.pointer none]) (qf (qs[i]?.getD (0,0))))∧∀ W,Calls Tryz.prog 10 #[.agg #[.int .i64 (qs[i]?.getD (0,0)).1,.int .i64 (qs[i]?.getD (0,0)).2]] W fun e w'=>e=.returned (.agg #[.bool (R i),.int .u64 (X i),.int .u64 (Y i),.pointer none])∧But [] W w':=by
  have h:∀ i,∃ t:Bool × Int × Int,i<qs.length→(∀ W,am W (.agg #[.bool t.1,.int .u64 t.2.1,.int .u64 t.2.2,.pointer none]) (qf (qs[i]?.getD (0,0))))∧∀ W,Calls Tryz.prog 10 #[.agg #[.int .i64 (qs[i]?.getD (0,0)).1,.int .i64 (qs[i]?.getD (0,0)).2]] W fun e w'=>e=.returned (.agg #[.bool t.1,.int .u64 t.2.1,.int .u64 t.2.2,.pointer none])∧But [] W w':=fun i=>by
   by_cases hi:i<qs.length
   ·rw [List.getElem?_eq_getElem hi]
    obtain ⟨r,x,y,-,h1,h2⟩:=plainF_at qs[i] (hf _ (List.getElem_mem hi))
    exact ⟨(r,x,y),fun _=>⟨h1,h2⟩⟩
   ·exact ⟨(false,0,0),fun h=>absurd h hi⟩
  obtain ⟨t,ht⟩:=Classical.axiomOfChoice h
  exact ⟨fun i=>(t i).1,fun i=>(t i).2.1,fun i=>(t i).2.2,ht⟩
 have hcell:∀ i,i<qs.length→∃ b off,a=some ⟨b,off,none⟩∧w.cell? ⟨b,off+i*2,none⟩=some (.int .i64 (qs[i]?.getD (0,0)).1)∧w.cell? ⟨b,off+i*2+1,none⟩=some (.int .i64 (qs[i]?.getD (0,0)).2):=fun i hi=>by
  rw [List.getElem?_eq_getElem hi]
  exact hc i _ (List.getElem?_eq_getElem hi)
 have hmap:∀ i,(qs.map qf)[i]? = (qs[i]?).map qf:=fun i=>List.getElem?_map ..
 have HM:=af hmap
 have HC:=af hcell
 have HV:=af hV
 clear hmap hcell hV hc hf
 obtain ⟨n,hnn⟩:∃ n,n=qs.length:=⟨_,rfl⟩
 have HN:=af hnn
 rw [← hnn] at hn hcap HC HV
 rw [← hnn]
 clear hnn
 go_enter Tryz.func57,Tryz.ntmps57
 go_wp2
 go_loopw [3,8] (fun o i wr=>∃ k:Nat,k≤n∧i=.int .i64 (k:Int)∧Hid (wr.ownsRow w.heap.size 29 4 o k (parts4 ((List.range k).map fun i=>.agg #[.bool (R i),.int .u64 (X i),.int .u64 (Y i),.pointer none]))∧But [] w wr)) (fun _ i _=>n-(intOf i).toNat)
 case atStart=>exact ⟨0,Nat.zero_le _,rfl,World.ownsRow_nil _ _ _ _,But.refl _ _⟩
 case round =>
  obtain ⟨k,hk,rfl,HI⟩:=hrel
  rename World=>wr
  by_cases hlt:k<n
  ·obtain ⟨b,off,rfl,c0,c1⟩:=ae HC k hlt
   have c0':=(ae HI).2.ag c0 (by simp)
   have c1':=(ae HI).2.ag c1 (by simp)
   obtain ⟨hva,hvb⟩:=ae HV k hlt
   have PF:=af hvb
   clear hva hvb c0 c1
   generalize (qs[k]?.getD (0,0)).1=q1 at *
   generalize (qs[k]?.getD (0,0)).2=q2 at *
   have ba:=(But.refl [] wr).alloc (.cells #[.int .i64 q1,.int .i64 q2] 23)
   have BA:=af ba
   clear ba
   go_wp2_with fail
   refine (ae PF _).mono ?_
   rintro e w1 ⟨rfl,hb1⟩
   have B1:Hid (But [] wr w1):=(ae BA).trans' hb1
   clear hb1
   obtain ⟨V,hV⟩:∃ V,V=w1.alloc (.cells #[.bool (R k),.int .u64 (X k),.int .u64 (Y k),.pointer none] 29):=⟨_,rfl⟩
   have cc:P4 V w1.heap.size (R k) (X k) (Y k) none:=by rw [hV];exact ⟨by simp,by simp,by simp,by simp⟩
   have bV:But [] wr V:=(ae B1).trans' (by rw [hV];exact (But.refl _ _).alloc _)
   have oV:=ownsRow_but (ae HI).1 bV
   obtain ⟨v',w',hr,ho,hg⟩:=append_frac V w.heap.size u3 k _ oV w1.heap.size _ _ _ _ cc (by omega) ((ae HI).2.trans' bV).size
   have BF:Hid (But [] w w'):=but_of_grown ((ae HI).2.trans' bV) oV (Nat.le_refl _) hg
   have HO:=af ho
   rw [hV] at hr
   have HR:=af hr
   clear hr ho hg oV bV cc hV
   go_wp2_with (at_builtin;refine wpList_app rfl _ _ 33 33 rfl _ _ v' w' rfl rfl (ae HR) ?_)
   refine ⟨⟨k+1,by omega,by go_num,by rw [List.range_succ,List.map_append];exact ae HO,ae BF⟩,by simp [intOf];omega⟩
  ·obtain rfl:k=n:=by omega
   obtain ⟨a',c',rfl⟩:=ownsRow_form (ae HI).1
   go_wp2
   go_ret
   have hlen:(qs.map qf).length=k:=by rw [List.length_map];exact (ae HN).symm
   refine ⟨_,_,rfl,⟨by rw [hlen];exact (ae HI).1,by simp [hlen],fun i f hi=>?_⟩,(ae HI).2⟩
   have hik:i<k:=by rw [← hlen];exact (List.getElem?_eq_some_iff.1 hi).1
   refine ⟨_,_,_,_,by rw [List.getElem?_map,List.getElem?_range hik];rfl,?_⟩
   have h1:=(ae HV i hik).1 wr
   rw [ae HM i] at hi
   cases hq:qs[i]? with
   | none=>rw [hq] at hi;simp at hi
   | some q =>
    rw [hq] at hi h1
    simp only [Option.map_some,Option.some.injEq] at hi
    rw [← hi]
    exact h1
def sumR (fs:List Rat):Rat:=fs.foldl (fun s f=>s+f) 0
theorem sumR_take (fs:List Rat) (k:Nat) (hk:k<fs.length):sumR (fs.take (k+1))=sumR (fs.take k)+fs[k]?.getD 0:=by
 unfold sumR
 rw [List.take_add_one,List.getElem?_eq_getElem hk,List.foldl_append]
 rfl
theorem len_zero (n:Nat) (h:1≤n):Len 0 n:=⟨Nat.le_trans (aj (by omega) _ 1 (by decide)) h,Nat.le_trans (aj (by omega) _ 1 (by decide)) h⟩
theorem len_sumR (c:Nat) (fs:List Rat) (h:∀ f ∈ fs,Len f c):∀ k,k≤fs.length→Len (sumR (fs.take k)) (k*(c+1)+1)
 | 0,_=>by
  rw [List.take_zero]
  exact len_zero _ (by omega)
 | k+1,hk=>by
  have ih:=len_sumR c fs h k (by omega)
  rw [sumR_take fs k (by omega),List.getElem?_eq_getElem (by omega)]
  exact len_add ih (h _ (List.getElem_mem (by omega))) _ (by rw [Nat.succ_mul];omega)
theorem cmp_same (x y:Rat) (r:Int) (hr:r=cmpZ (x.num*(y.den:Int)) (y.num*(x.den:Int))):(r != 0)=!decide (x=y):=by
 have h1:r=0↔x=y:=by
  have hle:x.num*(y.den:Int)=y.num*(x.den:Int)↔x=y:=by
   constructor
   ·intro h
    exact Rat.le_antisymm ((Rat.le_iff _ _).2 (by omega)) ((Rat.le_iff _ _).2 (by omega))
   ·intro h
    rw [h]
  rw [← hle,hr]
  unfold cmpZ
  constructor
  ·intro h
   split at h
   ·omega
   ·split at h
    ·assumption
    ·omega
  ·intro h
   rw [if_neg (by omega),if_pos h]
 by_cases h:x=y
 ·rw [h1.2 h,decide_eq_true h];rfl
 ·rw [decide_eq_false h]
  have h2:r≠0:=fun e=>h (h1.1 e)
  simpa using h2
def chkE (fs:List Rat):Int:=if fs.length<1∨201<fs.length then 4 else if fs.any (fun f=>decide (f.num<0)) then 1 else if sumR fs=1 then 0 else 10
def errV (q:Int):Value:=if q=0 then .nilIface else .iface 54 (.int .i64 q)
theorem lawCheck_any (v:Value) (fs:List Rat) (c:Nat) (w:World) (hv:an w v fs) (hn:fs.length≤1000) (lf:∀ f ∈ fs,Len f c) (hc:c≤100) :
  Calls Tryz.prog 60 #[v] w fun e w'=>e=.returned (errV (chkE fs))∧But [] w w':=by
 obtain ⟨q,cap,rfl,hcap,-⟩:=id hv
 obtain ⟨n,hN⟩:∃ n,n=fs.length:=⟨_,rfl⟩
 rw [← hN] at hn hcap ⊢
 rw [← hN] at hv
 have HV:=af hv
 have HN:=af hN
 clear hv hN
 obtain ⟨ce,hce⟩:∃ ce,ce=chkE fs:=⟨_,rfl⟩
 rw [← hce]
 have HCE:=af hce
 clear hce
 go_enter Tryz.func60,Tryz.ntmps60
 by_cases h0:n<1
 ·obtain rfl:n=0:=by omega
  have e4:ce=4:=by rw [ae HCE];unfold chkE;rw [if_pos (.inl (by have:=ae HN;omega))]
  subst e4
  go_wp2
  go_ret
  exact ⟨rfl,But.refl _ _⟩
 ·by_cases h1:201<n
  ·have e4:ce=4:=by rw [ae HCE];unfold chkE;rw [if_pos (.inr (by have:=ae HN;omega))]
   subst e4
   go_wp2
   go_ret
   exact ⟨rfl,But.refl _ _⟩
  ·go_wp2
   have x3:=ax.new w false 0 0 none 0 29 (zero_at _)
   have bV:But [] w (w.alloc (.cells #[.bool false,.int .u64 0,.int .u64 0,.pointer none] 29)):=(But.refl _ _).alloc _
   have X3:=af x3
   have BV:=af bV
   clear x3 bV
   have q3:w.heap.size≤w.heap.size:=Nat.le_refl _
   generalize hg3:w.heap.size=g3 at X3
   have Q3:Hid (w.heap.size≤g3):=by show _≤_;omega
   clear hg3 q3
   generalize w.alloc (.cells #[.bool false,.int .u64 0,.int .u64 0,.pointer none] 29)=V at *
   go_loopw [17] (fun iv wr=>∃ k:Nat,k≤n∧iv=.int .i64 (k:Int)∧Hid ((∀ f ∈ fs.take k,¬ f.num<0)∧ax wr g3 (sumR (fs.take k))∧But [] w wr)) (fun iv _=>n-(intOf iv).toNat)
   case atStart=>exact ⟨0,Nat.zero_le _,rfl,fun f hf=>by simp at hf,ae X3,ae BV⟩
   case round =>
    obtain ⟨k,hk,rfl,HI⟩:=hrel
    rename World=>wr
    clear X3 BV
    by_cases hlt:k<n
    ·have hkl:k<fs.length:=by have:=ae HN;omega
     have hfx:=(ae HV).but (ae HI).2.2
     rcases hfx.open with ⟨er,-⟩ | ⟨-,rb,roff,rcap2,er,-,-⟩
     ·rw [er] at hkl
      simp at hkl
     simp only [Value.slice.injEq] at er
     obtain ⟨rfl,-,rfl⟩:=er
     obtain ⟨sr,xr,yr,pr,⟨r0,r1,r2,r3⟩,hfr⟩:=hfx.get k hlt
     obtain ⟨f,hff⟩:∃ f,f=fs[k]?.getD 0:=⟨_,rfl⟩
     rw [← hff] at hfr
     have hmem:f ∈ fs:=by rw [hff,List.getElem?_eq_getElem hkl];exact List.getElem_mem hkl
     have bA:But [] wr (wr.alloc (.cells #[.bool sr,.int .u64 xr,.int .u64 yr,.pointer pr] 29)):=(But.refl _ _).alloc _
     have BA:=af bA
     have x5:=ax.new wr sr xr yr pr _ 29 hfr
     have X5:=af x5
     have SG:=af (fun W (h:But [] wr W)=>fracSign_any _ f W (hfr.but h))
     have HFR:=af hfr
     have HFF:=af hff
     clear hfx hfr bA x5 hff
     by_cases hneg:f.num<0
     ·have e1:ce=1:=by
       rw [ae HCE];unfold chkE
       rw [if_neg (by have:=ae HN;omega),if_pos (List.any_eq_true.2 ⟨f,hmem,decide_eq_true hneg⟩)]
      subst e1
      rw [Int.sign_eq_neg_one_of_neg hneg] at SG
      go_wp2_with fail
      refine (ae SG _ (ae BA)).mono ?_
      rintro e w1 ⟨rfl,hb1⟩
      have B1:Hid (But [] w w1):=((ae HI).2.2.trans' (ae BA)).trans' hb1
      clear hb1
      go_wp2
      go_ret
      exact ⟨rfl,ae B1⟩
     ·have hsg:0≤f.num.sign:=by
       rcases Int.lt_trichotomy f.num 0 with h | h | h
       ·omega
       ·rw [h];decide
       ·rw [Int.sign_eq_one_of_pos h];decide
      obtain ⟨sg,hsgn⟩:∃ sg,sg=f.num.sign:=⟨_,rfl⟩
      rw [← hsgn] at SG hsg
      clear hsgn
      go_wp2_with fail
      refine (ae SG _ (ae BA)).mono ?_
      rintro e w1 ⟨rfl,hb1⟩
      have B01:=af ((ae BA).trans' hb1)
      have X51:=af ((ae X5).but hb1)
      have X31:=af ((ae HI).2.1.but (ae B01))
      have B1:=af ((ae HI).2.2.trans' (ae B01))
      have L5:g3<wr.heap.size:=(ae HI).2.1.lt
      clear hb1 SG X5 r0 r1 r2 r3
      generalize wr.heap.size=g5 at *
      obtain ⟨⟨t3,a3,b3,q3,⟨c0,c1,c2,c3⟩,hf3⟩,z3⟩:=ae X31
      obtain ⟨⟨t5,a5,b5,q5,⟨d0,d1,d2,d3⟩,hf5⟩,-⟩:=ae X51
      have ls:=len_sumR c fs lf k (by omega)
      have hkc:k*(c+1)≤1000*101:=Nat.mul_le_mul (by omega) (by omega)
      have AD:=af (in_parts (fracAdd_gen 200000 200000 (by omega) _ _ _ _ w1 hf3 hf5 (ls.mono (by omega)) ((lf f hmem).mono (by omega))))
      clear hf3 hf5 ls hkc X51
      go_wp2_with fail
      refine (ae AD).mono ?_
      rintro e w2 ⟨s7,x7,y7,p7,rfl,hf7,hb7⟩
      have stp:=sumR_take fs k hkl
      rw [← ae HFF] at stp
      rw [← stp] at hf7
      have l31:g3<w1.heap.size:=ai c0
      have z3':∀ j,w2.frozen? ⟨g3,j,none⟩=false:=fun j=>(hb7.frozen (p:=⟨g3,j,none⟩) l31 (by simp)).trans (z3 j)
      replace c0:=hb7.ag c0 (by simp)
      replace c1:=hb7.ag c1 (by simp)
      replace c2:=hb7.ag c2 (by simp)
      replace c3:=hb7.ag c3 (by simp)
      have D3:=af ((ae X31).but hb7)
      have B2:=af ((ae B1).trans' hb7)
      have HF7:=af hf7
      clear hf7 hb7 AD d0 d1 d2 d3 X31 B1 B01 z3 stp
      go_wp2
      have hP:=au w2 g3 s7 x7 y7 p7
      refine ⟨⟨k+1,by omega,by go_num,fun f' hf'=>?_,(ae D3).put (ae HF7),(ae B2).trans hP (fun x hx=>by simp at hx;subst hx;exact .inr (ae Q3))⟩,by simp [intOf];omega⟩
      rw [List.take_add_one,List.getElem?_eq_getElem hkl] at hf'
      rcases List.mem_append.1 hf' with h1 | h1
      ·have h2:=(ae HI).1 f' h1
       omega
      ·simp at h1
       rw [h1]
       have:=ae HFF
       rw [List.getElem?_eq_getElem hkl,Option.getD_some] at this
       rw [← this]
       omega
    ·obtain rfl:k=n:=by omega
     have hall:fs.take k=fs:=by rw [ae HN,List.take_length]
     obtain ⟨hpos,⟨⟨t3,a3,b3,q3,c3,hf3⟩,z3⟩,hbw⟩:=ae HI
     rw [hall] at hpos hf3
     obtain ⟨ws,wx,FW,CW⟩:=whole_is 1 (by omega) (by omega)
     obtain ⟨r,hr⟩:∃ r,r=cmpZ ((sumR fs).num*((((1:Int):Rat)).den:Int)) ((((1:Int):Rat)).num*((sumR fs).den:Int)):=⟨_,rfl⟩
     have ls:=len_sumR c fs lf fs.length (Nat.le_refl _)
     rw [List.take_length] at ls
     have hkc:fs.length*(c+1)≤1000*101:=Nat.mul_le_mul (by have:=ae HN;omega) (by omega)
     have CM:=af (fun W (h:But [] wr W)=>fracCmp_any _ _ (sumR fs) ((1:Int):Rat) W (hf3.but h) (FW W) (ls.mono (by omega)) ((len_int 1 (by decide)).mono (by omega)) r hr)
     have hr0:(r != 0)=!decide (sumR fs=1):=cmp_same _ _ r hr
     have HR0:=af hr0
     have HPOS:=af hpos
     have HBW:=af hbw
     have C3:=af c3
     have CWH:=af CW
     clear hall hpos hf3 z3 hbw hr ls hkc hr0 FW CW HI
     go_wp2
     refine check_region 11 _ _ wr t3 a3 b3 q3 ws wx r (by simp) g3 (by simp [Act.eval]) c3 (ae CWH) (fun w' hb=>ae CM w' hb) ?_
     intro w1 hb1
     have B1:=af ((ae HBW).trans' hb1)
     simp only [bb,List.foldl_cons,List.foldl_nil,Act.put,List.setIfInBounds_toArray,List.set_cons_zero,List.set_cons_succ]
     rw [ae HR0]
     have nn:¬ (fs.length<1∨201<fs.length):=by have:=ae HN;omega
     have nany:fs.any (fun f=>decide (f.num<0))=false:=by
      rw [List.any_eq_false]
      intro f hf
      simpa using ae HPOS f hf
     by_cases hone:sumR fs=1
     ·have e1:ce=0:=by rw [ae HCE];unfold chkE;rw [if_neg nn,nany];simp [hone]
      subst e1
      rw [decide_eq_true hone]
      clear c3 hb1
      go_wp2
      go_ret
      exact ⟨rfl,ae B1⟩
     ·have e1:ce=10:=by rw [ae HCE];unfold chkE;rw [if_neg nn,nany];simp [hone]
      subst e1
      rw [decide_eq_false hone]
      clear c3 hb1
      go_wp2
      go_ret
      exact ⟨rfl,ae B1⟩
structure Row4 (w:World) (g n i:Nat) (F:Nat→Rat):Prop where
 blank:∀ j,i≤j→j<n→P4o w g (j*4) false 0 0 none
 told:∀ j,j<i→LiesAt w g (j*4) (F j)
 loose:∀ o,w.frozen? ⟨g,o,none⟩=false
theorem Row4.made (w:World) (n:Nat) (F:Nat→Rat):Row4 (w.alloc (.cells (madeCells #[Value.bool false,.int .u64 0,.int .u64 0,.pointer none] (n*4)) 29)) w.heap.size n 0 F:=by
 have hc:∀ j k,j<n→k<4→(w.alloc (.cells (madeCells #[Value.bool false,.int .u64 0,.int .u64 0,.pointer none] (n*4)) 29)).cell? ⟨w.heap.size,j*4+k,none⟩=(#[Value.bool false,.int .u64 0,.int .u64 0,.pointer none]:Array Value)[k]?:=fun j k hj hk=>by
  rw [World.cell?_alloc_new,made_four n _ (by omega),show (j*4+k)%4=k from by omega]
 exact ⟨fun j _ hj=>⟨hc j 0 hj (by omega),hc j 1 hj (by omega),hc j 2 hj (by omega),hc j 3 hj (by omega)⟩,fun j hj=>by omega,fun o=>by simp⟩
theorem Row4.but {w w':World} {g n i:Nat} {F:Nat→Rat} (h:Row4 w g n i F) (hb:But [] w w') (hg:g<w.heap.size):Row4 w' g n i F :=
 ⟨fun j h1 h2=>(h.blank j h1 h2).but hb (by simp),fun j hj=>(h.told j hj).but hb,fun o=>(hb.frozen (p:=⟨g,o,none⟩) hg (by simp)).trans (h.loose o)⟩
theorem Row4.beside {w w':World} {g n i:Nat} {F:Nat→Rat} {l:List Nat} (h:Row4 w g n i F) (hb:But l w w') (hg:g<w.heap.size) (hn:g ∉ l) (hc:∀ g ∈ l,∃ s,w.cell? ⟨g,0,none⟩=some (.bool s)):Row4 w' g n i F :=
 ⟨fun j h1 h2=>(h.blank j h1 h2).but hb hn,fun j hj=>(h.told j hj).beside hb hn hc,fun o=>(hb.frozen (p:=⟨g,o,none⟩) hg hn).trans (h.loose o)⟩
theorem Row4.bool {w:World} {g n i:Nat} {F:Nat→Rat} (h:Row4 w g n i F) (h0:0<n):∃ s,w.cell? ⟨g,0,none⟩=some (.bool s):=by
 rcases Nat.eq_zero_or_pos i with e | e
 ·subst e
  have a:=h.blank 0 (Nat.le_refl _) h0
  rw [Nat.zero_mul] at a
  exact ⟨_,a.1⟩
 ·obtain ⟨s,x,y,p,a,-⟩:=h.told 0 e
  rw [Nat.zero_mul] at a
  exact ⟨_,a.1⟩
theorem Row4.next {w:World} {g n i:Nat} {F:Nat→Rat} (h:Row4 w g n i F) (hi:i<n) (s1:Bool) (x1 y1:Int) (p1:Option Addr) (h1:am w (.agg #[.bool s1,.int .u64 x1,.int .u64 y1,.pointer p1]) (F i)) :
  Row4 (w.setCells g (i*4) [.bool s1,.int .u64 x1,.int .u64 y1,.pointer p1]) g n (i+1) F:=by
 obtain ⟨c,hc⟩:=h.bool (by omega)
 have a1:=h.blank i (Nat.le_refl _) hi
 have hb:=bf w g [.bool s1,.int .u64 x1,.int .u64 y1,.pointer p1] (i*4)
 have some4:∀ k,k<4→(w.cell? ⟨g,i*4+k,none⟩).isSome=true:=fun k hk=>by
  have:k=0∨k=1∨k=2∨k=3:=by omega
  rcases this with rfl | rfl | rfl | rfl
  ·rw [show i*4+0=i*4 from rfl,a1.1];rfl
  ·rw [a1.2.1];rfl
  ·rw [a1.2.2.1];rfl
  ·rw [a1.2.2.2];rfl
 have hin:∀ k (hk:k<4),(w.setCells g (i*4) [.bool s1,.int .u64 x1,.int .u64 y1,.pointer p1]).cell? ⟨g,i*4+k,none⟩=some ([Value.bool s1,.int .u64 x1,.int .u64 y1,.pointer p1][k]'hk):=fun k hk =>
  World.cell?_setCells_in g [.bool s1,.int .u64 x1,.int .u64 y1,.pointer p1] (i*4) w (fun j hj=>some4 j hj) k hk
 have hout:∀ o,o<i*4∨i*4+4≤o→(w.setCells g (i*4) [.bool s1,.int .u64 x1,.int .u64 y1,.pointer p1]).cell? ⟨g,o,none⟩=w.cell? ⟨g,o,none⟩:=fun o ho=>World.cell?_setCells_out g _ (i*4) w _ (fun _ _=>by simp;omega)
 have keep:∀ o s x y p,o+4≤i*4∨i*4+4≤o→P4o w g o s x y p→P4o (w.setCells g (i*4) [.bool s1,.int .u64 x1,.int .u64 y1,.pointer p1]) g o s x y p:=fun o s x y p ho hp=>⟨(hout o (by omega)).trans hp.1,(hout (o+1) (by omega)).trans hp.2.1,(hout (o+2) (by omega)).trans hp.2.2.1,(hout (o+3) (by omega)).trans hp.2.2.2⟩
 have hfr:∀ {v f},am w v f→am (w.setCells g (i*4) [.bool s1,.int .u64 x1,.int .u64 y1,.pointer p1]) v f:=fun hf=>hf.over hc hb
 refine ⟨fun j h1 h2=>keep _ _ _ _ _ (by omega) (h.blank j (by omega) h2),fun j hj=>?_,fun o=>by rw [World.frozen?_setCells];exact h.loose o⟩
 by_cases e:j=i
 ·subst e
  exact ⟨s1,x1,y1,p1,⟨hin 0 (by omega),hin 1 (by omega),hin 2 (by omega),hin 3 (by omega)⟩,hfr h1⟩
 ·obtain ⟨t1,u1,v1,q1,b1,f1⟩:=h.told j (by omega)
  exact ⟨t1,u1,v1,q1,keep _ _ _ _ _ (by omega) b1,hfr f1⟩
theorem Row4.fracs {w:World} {g n:Nat} {F:Nat→Rat} (h:Row4 w g n n F):an w (.slice (some ⟨g,0,none⟩) n n) ((List.range n).map F) :=
 ⟨some ⟨g,0,none⟩,n,by simp,by simp,fun i f hf=>by
  rw [List.getElem?_map] at hf
  by_cases hi:i<n
  ·rw [List.getElem?_range hi] at hf
   simp only [Option.map_some,Option.some.injEq] at hf
   subst hf
   exact ⟨g,0,rfl,by rw [Nat.zero_add];exact h.told i hi⟩
  ·rw [List.getElem?_eq_none (by simp;omega)] at hf
   simp at hf⟩
theorem times_any (v vu:Value) (fs:List Rat) (u:Rat) (w:World) (hv:an w v fs) (hu:am w vu u) (hn:fs.length≤100000) (lf:∀ f ∈ fs,Len f 1000000) (lu:Len u 1000000) :
  Calls Tryz.prog 120 #[v,vu] w fun e w'=>∃ g,e=.returned (.slice (some ⟨g,0,none⟩) fs.length fs.length)∧Row4 w' g fs.length fs.length (fun i=>fs[i]?.getD 0*u)∧w.heap.size≤g∧g<w'.heap.size∧But [] w w':=by
 obtain ⟨x1,y1,p1,rfl,-⟩:=id hu.agg
 generalize hsf:decide (u.num<0)=s1 at *
 clear hsf
 obtain ⟨q,cap,rfl,hcap,-⟩:=id hv
 obtain ⟨n,hN⟩:∃ n,n=fs.length:=⟨_,rfl⟩
 rw [← hN] at hn hcap ⊢
 rw [← hN] at hv
 have HV:=af hv
 have HU:=af hu
 have HN:=af hN
 have hmk:=fun wx=>run_makeF wx n (by omega)
 clear hv hu hN
 obtain ⟨A,hA⟩:∃ A,A=w.alloc (.cells #[.bool s1,.int .u64 x1,.int .u64 y1,.pointer p1] 29):=⟨_,rfl⟩
 have bA:But [] w A:=by rw [hA];exact (But.refl _ _).alloc _
 have sA:A.heap.size=w.heap.size+1:=by rw [hA];simp
 have cA:P4 A w.heap.size s1 x1 y1 p1:=by rw [hA];exact ⟨by simp,by simp,by simp,by simp⟩
 obtain ⟨U,hU⟩:∃ U,U=(w.alloc (.cells #[.bool s1,.int .u64 x1,.int .u64 y1,.pointer p1] 29)).alloc (.cells (madeCells #[.bool false,.int .u64 0,.int .u64 0,.pointer none] (n*4)) 29):=⟨_,rfl⟩
 have bU:But [] A U:=by rw [hU,← hA];exact (But.refl _ _).alloc _
 have rU:Row4 U A.heap.size n 0 (fun i=>fs[i]?.getD 0*u):=by rw [hU,← hA];exact Row4.made A n _
 have lU:A.heap.size<U.heap.size:=by rw [hU,← hA];simp
 obtain ⟨G,hG⟩:∃ G,G=w.heap.size+1:=⟨_,rfl⟩
 obtain ⟨B,hB⟩:∃ B,B=w.heap.size:=⟨_,rfl⟩
 have hGA:G=A.heap.size:=by omega
 have I0:Hid (Row4 U G n 0 (fun i=>fs[i]?.getD 0*u)∧P4 U B s1 x1 y1 p1∧an U (.slice q n cap) fs∧am U (.agg #[.bool s1,.int .u64 x1,.int .u64 y1,.pointer p1]) u∧G<U.heap.size∧But [] w U) :=
  ⟨by rw [hGA];exact rU,by rw [hB];exact cA.but bU (by simp),((ae HV).but bA).but bU,((ae HU).but bA).but bU,by rw [hGA];exact lU,bA.trans' bU⟩
 have hGB:B<G:=by omega
 have hwB:w.heap.size≤B:=by omega
 clear bU rU lU bA sA cA hGA hA
 go_enter Tryz.func120,Tryz.ntmps120
 go_wp2
 rw [← hU]
 try rw [← hG]
 rw [← hB]
 clear hU hmk HU
 have HB:=af hB
 have HW:=af hwB
 clear hB hG hwB
 go_loopw [13] (fun i wr=>∃ k:Nat,k≤n∧i=.int .i64 (k:Int)∧Hid (Row4 wr G n k (fun i=>fs[i]?.getD 0*u)∧P4 wr B s1 x1 y1 p1∧an wr (.slice q n cap) fs∧am wr (.agg #[.bool s1,.int .u64 x1,.int .u64 y1,.pointer p1]) u∧G<wr.heap.size∧But [] w wr)) (fun i _=>n-(intOf i).toNat)
 case atStart=>exact ⟨0,Nat.zero_le _,rfl,ae I0⟩
 case round =>
  obtain ⟨k,hk,rfl,HI⟩:=hrel
  rename World=>wr
  clear I0
  by_cases hlt:k<n
  ·obtain ⟨hrow,hbx,hfs,hfu,hG2,hb⟩:=ae HI
   have hkr:k<fs.length:=by have:=ae HN;omega
   rcases hfs.open with ⟨er,-⟩ | ⟨-,rb,roff,rcap2,er,-,-⟩
   ·rw [er] at hkr
    simp at hkr
   simp only [Value.slice.injEq] at er
   obtain ⟨rfl,-,rfl⟩:=er
   obtain ⟨sr,xr,yr,pr,⟨r0,r1,r2,r3⟩,hfr⟩:=hfs.get k hlt
   have lrk:Len (fs[k]?.getD 0) 1000000:=by rw [List.getElem?_eq_getElem hkr];exact lf _ (List.getElem_mem hkr)
   obtain ⟨b0,b1,b2,b3⟩:=hbx
   have MU:=af (fun W (h:But [] wr W)=>in_parts (fracMul_any _ _ _ _ W (hfr.but h) (hfu.but h) lrk lu))
   have BA:Hid (But [] wr (wr.alloc (.cells #[.bool sr,.int .u64 xr,.int .u64 yr,.pointer pr] 29))):=(But.refl _ _).alloc _
   have lB:B<wr.heap.size:=ai b0
   clear hfr lrk hrow hfs hfu hb
   go_wp2_with fail
   refine (ae MU _ (ae BA)).mono ?_
   rintro e w3 ⟨s3,x3,y3,p3,rfl,hv3,hb3⟩
   have B3:Hid (But [] wr w3):=(ae BA).trans' hb3
   have HV3:=af hv3
   have hrow3:=(ae HI).1.but (ae B3) hG2
   have R3:=af hrow3
   have pf:=hrow3.loose
   obtain ⟨k0,k1,k2,k3⟩:=hrow3.blank k (Nat.le_refl _) hlt
   clear hv3 hb3 MU BA r0 r1 r2 r3 b0 b1 b2 b3 hrow3
   go_wp2
   have hS:=bf w3 G [.bool s3,.int .u64 x3,.int .u64 y3,.pointer p3] (k*4)
   obtain ⟨cb,hcb⟩:=(ae R3).bool (by omega)
   have hc2:∀ g ∈ [G],∃ s,w3.cell? ⟨g,0,none⟩=some (.bool s):=fun g hg=>by simp at hg;subst hg;exact ⟨_,hcb⟩
   have lw:w.heap.size≤G:=by have:=ae HW;omega
   refine ⟨⟨k+1,by omega,by go_num,(ae R3).next hlt s3 x3 y3 p3 (ae HV3),((ae HI).2.1.but (ae B3) (by simp)).but hS (by simp;omega),(ae HV).behind ((ae HI).2.2.1.but (ae B3)) hS lw ⟨_,hcb⟩,((ae HI).2.2.2.1.but (ae B3)).beside hS hc2,Nat.lt_of_lt_of_le (Nat.lt_of_lt_of_le hG2 (ae B3).size) hS.size,((ae HI).2.2.2.2.2.trans' (ae B3)).trans hS (fun x hx=>by simp at hx;subst hx;exact .inr lw)⟩,by simp [intOf];omega⟩
  ·obtain rfl:k=n:=by omega
   go_wp2
   go_ret
   exact ⟨G,rfl,(ae HI).1,by have:=ae HW;omega,(ae HI).2.2.2.2.1,(ae HI).2.2.2.2.2⟩
theorem run_store4o (a:Act) (w:World) (t1 t2:Nat) (u:TypeId) (ps:String) (ed:Array Edge) (g o:Nat) (s:Bool) (x y:Int) (p:Option Addr) {s':Bool} {x' y':Int} {p':Option Addr} (h1:a.eval (.tmp t1)=.pointer (some ⟨g,o,none⟩)) (h2:a.eval (.tmp t2)=.agg #[.bool s,.int .u64 x,.int .u64 y,.pointer p]) (hc:P4o w g o s' x' y' p') (fz:∀ j,w.frozen? ⟨g,j,none⟩=false) :
  (execOp a.eval { dst:=none,op:=Op.store 29 (.tmp t1) (.tmp t2),type:=u,pos:=ps,after:=ed,guard:=none }).run Tryz.prog w=.ok .skip (w.setCells g o [.bool s,.int .u64 x,.int .u64 y,.pointer p]):=by
 obtain ⟨c0,c1,c2,c3⟩:=hc
 unfold execOp
 simp only [h1,h2]
 go_simp
 rfl
theorem run_indexK (a:Act) (w:World) (d t1 t2:Nat) (u:TypeId) (ps:String) (ed:Array Edge) (gd:Option (Nat × Bool)) (b off n c k:Nat) (hk:k<n) (_hn:n<1000000) (h1:a.eval (.tmp t1)=.slice (some ⟨b,off,none⟩) n c) (h2:a.eval (.tmp t2)=.int .i64 (k:Int)) :
  (execOp a.eval { dst:=some d,op:=Op.indexAddr 33 (.tmp t1) (.tmp t2),type:=u,pos:=ps,after:=ed,guard:=gd }).run Tryz.prog w=.ok (.value (.pointer (some ⟨b,off+k*4,none⟩))) w:=by
 unfold execOp
 simp only [h1,h2]
 go_simp
theorem run_plusK (a:Act) (w:World) (d t1 t2:Nat) (u:TypeId) (ps:String) (ed:Array Edge) (gd:Option (Nat × Bool)) (m n:Nat) (hm:m≤1000000) (hn:n≤1000000) (h1:a.eval (.tmp t1)=.int .i64 (m:Int)) (h2:a.eval (.tmp t2)=.int .i64 (n:Int)) :
  (execOp a.eval { dst:=some d,op:=Op.binOp BinOp.add 3 (.tmp t1) (.tmp t2) 3,type:=u,pos:=ps,after:=ed,guard:=gd }).run Tryz.prog w=.ok (.value (.int .i64 ((m+n:Nat):Int))) w:=by
 unfold execOp
 simp only [h1,h2]
 go_simp
 rw [IntKind.wrap_i64]
 omega
def opKf0:Oper:={ dst:=some 34,op:=Op.move (Operand.tmp 5),type:=33,pos:= "together.go:104",after:=#[],guard:=none }
def opKf1:Oper:={ dst:=some 35,op:=Op.move (Operand.tmp 6),type:=3,pos:= "together.go:104",after:=#[],guard:=none }
def opKf2:Oper:={ dst:=some 36,op:=Op.move (Operand.tmp 8),type:=3,pos:= "together.go:104",after:=#[],guard:=none }
def opKf3:Oper:={ dst:=some 37,op:=Op.binOp BinOp.add 3 (Operand.tmp 35) (Operand.tmp 36) 3,type:=3,pos:= "together.go:104",after:=#[⟨1,.data⟩,⟨2,.data⟩],guard:=none }
def opKf4:Oper:={ dst:=some 38,op:=Op.move (Operand.tmp 5),type:=33,pos:= "together.go:104",after:=#[],guard:=none }
def opKf5:Oper:={ dst:=some 39,op:=Op.move (Operand.tmp 6),type:=3,pos:= "together.go:104",after:=#[],guard:=none }
def opKf6:Oper:={ dst:=some 40,op:=Op.move (Operand.tmp 8),type:=3,pos:= "together.go:104",after:=#[],guard:=none }
def opKf7:Oper:={ dst:=some 41,op:=Op.binOp BinOp.add 3 (Operand.tmp 39) (Operand.tmp 40) 3,type:=3,pos:= "together.go:104",after:=#[⟨5,.data⟩,⟨6,.data⟩],guard:=none }
def opKf8:Oper:={ dst:=some 42,op:=Op.indexAddr 33 (Operand.tmp 38) (Operand.tmp 41),type:=0,pos:= "together.go:104",after:=#[⟨4,.data⟩,⟨7,.data⟩],guard:=none }
def opKf9:Oper:={ dst:=some 43,op:=Op.load 29 (Operand.tmp 42),type:=29,pos:= "together.go:104",after:=#[⟨8,.data⟩],guard:=none }
def opKf10:Oper:={ dst:=some 44,op:=Op.load 29 (Operand.tmp 7),type:=29,pos:= "together.go:104",after:=#[],guard:=none }
def opKf11:Oper:={ dst:=some 45,op:=Op.load 29 (Operand.tmp 9),type:=29,pos:= "together.go:104",after:=#[],guard:=none }
def opKf12:Oper:={ dst:=some 46,op:=Op.call { callee:=Callee.value (Operand.func 33),args:=#[Operand.tmp 44,Operand.tmp 45],argTypes:=#[29,29] },type:=29,pos:= "together.go:104",after:=#[⟨10,.data⟩,⟨11,.data⟩],guard:=none }
def opKf13:Oper:={ dst:=some 47,op:=Op.call { callee:=Callee.value (Operand.func 22),args:=#[Operand.tmp 43,Operand.tmp 46],argTypes:=#[29,29] },type:=29,pos:= "together.go:104",after:=#[⟨9,.data⟩,⟨12,.data⟩,⟨12,.chain⟩],guard:=none }
def opKf14:Oper:={ dst:=some 48,op:=Op.indexAddr 33 (Operand.tmp 34) (Operand.tmp 37),type:=0,pos:= "together.go:104",after:=#[⟨0,.data⟩,⟨3,.data⟩,⟨0,.phase⟩,⟨1,.phase⟩,⟨2,.phase⟩,⟨3,.phase⟩,⟨4,.phase⟩,⟨5,.phase⟩,⟨6,.phase⟩,⟨7,.phase⟩,⟨8,.phase⟩,⟨9,.phase⟩,⟨10,.phase⟩,⟨11,.phase⟩,⟨12,.phase⟩,⟨13,.phase⟩],guard:=none }
def opKf15:Oper:={ dst:=none,op:=Op.store 29 (Operand.tmp 48) (Operand.tmp 47),type:=0,pos:= "together.go:104",after:=#[⟨14,.data⟩,⟨13,.data⟩,⟨13,.chain⟩,⟨0,.phase⟩,⟨1,.phase⟩,⟨2,.phase⟩,⟨3,.phase⟩,⟨4,.phase⟩,⟨5,.phase⟩,⟨6,.phase⟩,⟨7,.phase⟩,⟨8,.phase⟩,⟨9,.phase⟩,⟨10,.phase⟩,⟨11,.phase⟩,⟨12,.phase⟩,⟨13,.phase⟩],guard:=none }
def opKfs:Array Oper:=#[opKf0,opKf1,opKf2,opKf3,opKf4,opKf5,opKf6,opKf7,opKf8,opKf9,opKf10,opKf11,opKf12,opKf13,opKf14,opKf15]
def opKfT (i:Nat):Nat:=match i with
 | 0=>34
 | 1=>35
 | 2=>36
 | 3=>37
 | 4=>38
 | 5=>39
 | 6=>40
 | 7=>41
 | 8=>42
 | 9=>43
 | 10=>44
 | 11=>45
 | 12=>46
 | 13=>47
 | _=>48
def opKfC (gb:Nat) (go:Nat) (N:Nat) (ia:Nat) (ka:Nat) (s1:Bool) (x1:Int) (y1:Int) (p1:Option Addr) (s2:Bool) (x2:Int) (y2:Int) (p2:Option Addr) (s3:Bool) (x3:Int) (y3:Int) (p3:Option Addr) (f1:Rat) (f2:Rat) (f3:Rat) (i:Nat) (w:World) (v:Value):Prop:=match i with
 | 0=>v=.slice (some ⟨gb,0,none⟩) N N
 | 1=>v=.int .i64 (ia:Int)
 | 2=>v=.int .i64 (ka:Int)
 | 3=>v=.int .i64 ((ia+ka:Nat):Int)
 | 4=>v=.slice (some ⟨gb,0,none⟩) N N
 | 5=>v=.int .i64 (ia:Int)
 | 6=>v=.int .i64 (ka:Int)
 | 7=>v=.int .i64 ((ia+ka:Nat):Int)
 | 8=>v=.pointer (some ⟨gb,go,none⟩)
 | 9=>v=.agg #[.bool s1,.int .u64 x1,.int .u64 y1,.pointer p1]
 | 10=>v=.agg #[.bool s2,.int .u64 x2,.int .u64 y2,.pointer p2]
 | 11=>v=.agg #[.bool s3,.int .u64 x3,.int .u64 y3,.pointer p3]
 | 12=>am w v (f2*f3)
 | 13=>am w v (f1+f2*f3)
 | _=>v=.pointer (some ⟨gb,go,none⟩)
theorem opKfC_but {gb:Nat} {go:Nat} {N:Nat} {ia:Nat} {ka:Nat} {s1:Bool} {x1:Int} {y1:Int} {p1:Option Addr} {s2:Bool} {x2:Int} {y2:Int} {p2:Option Addr} {s3:Bool} {x3:Int} {y3:Int} {p3:Option Addr} {f1:Rat} {f2:Rat} {f3:Rat} {i:Nat} {w w':World} {v:Value} (h:opKfC gb go N ia ka s1 x1 y1 p1 s2 x2 y2 p2 s3 x3 y3 p3 f1 f2 f3 i w v) (hi:i<15) (hb:But [] w w'):opKfC gb go N ia ka s1 x1 y1 p1 s2 x2 y2 p2 s3 x3 y3 p3 f1 f2 f3 i w' v:=by
 have:i=0∨i=1∨i=2∨i=3∨i=4∨i=5∨i=6∨i=7∨i=8∨i=9∨i=10∨i=11∨i=12∨i=13∨i=14:=by omega
 rcases this with rfl | rfl | rfl | rfl | rfl | rfl | rfl | rfl | rfl | rfl | rfl | rfl | rfl | rfl | rfl
 all_goals first | exact h | exact am.but h hb | exact an.but h hb
theorem opKfT_inj:∀ i j,i<15→j<15→opKfT i=opKfT j→i=j:=fun i j hi hj=>(by decide:∀ i,i<15→∀ j,j<15→opKfT i=opKfT j→i=j) i hi j hj
theorem product_region (id:Nat) (Q:Exit→Act→World→Prop) (base:Act) (W0:World) (gb:Nat) (go:Nat) (N:Nat) (ia:Nat) (ka:Nat) (s1:Bool) (x1:Int) (y1:Int) (p1:Option Addr) (s2:Bool) (x2:Int) (y2:Int) (p2:Option Addr) (s3:Bool) (x3:Int) (y3:Int) (p3:Option Addr) (f1:Rat) (f2:Rat) (f3:Rat) (g7 g9:Nat) {sb:Bool} {xb yb:Int} {pb:Option Addr} (hs:48<base.tmps.size) (cb:P4o W0 gb go sb xb yb pb) (fzb:∀ j,W0.frozen? ⟨gb,j,none⟩=false) (e5:base.eval (.tmp 5)=.slice (some ⟨gb,0,none⟩) N N) (e6:base.eval (.tmp 6)=.int .i64 (ia:Int)) (e8:base.eval (.tmp 8)=.int .i64 (ka:Int)) (e7:base.eval (.tmp 7)=.pointer (some ⟨g7,0,none⟩)) (e9:base.eval (.tmp 9)=.pointer (some ⟨g9,0,none⟩))
  (hgo:go=(ia+ka)*4) (hN:ia+ka<N) (hN2:N<1000000) (hi1:ia≤1000000) (hk1:ka≤1000000) (c1:P4o W0 gb go s1 x1 y1 p1) (c2:P4 W0 g7 s2 x2 y2 p2) (c3:P4 W0 g9 s3 x3 y3 p3)
  (MU:∀ w,But [] W0 w→Calls Tryz.prog 33 #[.agg #[.bool s2,.int .u64 x2,.int .u64 y2,.pointer p2],.agg #[.bool s3,.int .u64 x3,.int .u64 y3,.pointer p3]] w fun e w'=>∃ v,e=.returned v∧am w' v (f2*f3)∧But [] w w')
  (AD:∀ w,But [] W0 w→∀ v,am w v (f2*f3)→Calls Tryz.prog 22 #[.agg #[.bool s1,.int .u64 x1,.int .u64 y1,.pointer p1],v] w fun e w'=>∃ v,e=.returned v∧am w' v (f1+f2*f3)∧But [] w w')
  (hQ:∀ w1 v12 s' x' y' p',But [] W0 w1→am w1 (.agg #[.bool s',.int .u64 x',.int .u64 y',.pointer p']) (f1+f2*f3)→Q .normal (bb base [(34,.slice (some ⟨gb,0,none⟩) N N),(35,.int .i64 (ia:Int)),(36,.int .i64 (ka:Int)),(37,.int .i64 ((ia+ka:Nat):Int)),(38,.slice (some ⟨gb,0,none⟩) N N),(39,.int .i64 (ia:Int)),(40,.int .i64 (ka:Int)),(41,.int .i64 ((ia+ka:Nat):Int)),(42,.pointer (some ⟨gb,go,none⟩)),(43,.agg #[.bool s1,.int .u64 x1,.int .u64 y1,.pointer p1]),(44,.agg #[.bool s2,.int .u64 x2,.int .u64 y2,.pointer p2]),(45,.agg #[.bool s3,.int .u64 x3,.int .u64 y3,.pointer p3]),(46,v12),(47,(.agg #[.bool s',.int .u64 x',.int .u64 y',.pointer p'])),(48,.pointer (some ⟨gb,go,none⟩))]) (w1.setCells gb go [.bool s',.int .u64 x',.int .u64 y',.pointer p'])) :
  (Code.region id opKfs true).wp Tryz.prog Q base W0:=by
 have hdr:∀ {w},But [] W0.drew w→But [] W0 w:=fun h=>(But.refl _ _).drew.trans' h
 have lgb:gb<W0.heap.size:=ai cb.1
 have hT:∀ i,i<15→opKfT i<base.tmps.size:=fun i hi=>by
  have h:opKfT i≤48:=by revert i;decide
  omega
 refine region_flow (by kernel_rfl) (low_of (by kernel_rfl)) (fun i o ho=>(calm_of (ops:=opKfs) (by kernel_rfl) i o ho).1)
  (fun _ w=>But [] W0.drew w) (opKfC gb go N ia ka s1 x1 y1 p1 s2 x2 y2 p2 s3 x3 y3 p3 f1 f2 f3) opKfT 15 rfl opKfT_inj hT (But.refl _ _)
  (fun i hi=>?_) ?_ (fun a w=>∃ w1 v12 s' x' y' p',a=bb base [(34,.slice (some ⟨gb,0,none⟩) N N),(35,.int .i64 (ia:Int)),(36,.int .i64 (ka:Int)),(37,.int .i64 ((ia+ka:Nat):Int)),(38,.slice (some ⟨gb,0,none⟩) N N),(39,.int .i64 (ia:Int)),(40,.int .i64 (ka:Int)),(41,.int .i64 ((ia+ka:Nat):Int)),(42,.pointer (some ⟨gb,go,none⟩)),(43,.agg #[.bool s1,.int .u64 x1,.int .u64 y1,.pointer p1]),(44,.agg #[.bool s2,.int .u64 x2,.int .u64 y2,.pointer p2]),(45,.agg #[.bool s3,.int .u64 x3,.int .u64 y3,.pointer p3]),(46,v12),(47,(.agg #[.bool s',.int .u64 x',.int .u64 y',.pointer p'])),(48,.pointer (some ⟨gb,go,none⟩))]∧w=w1.setCells gb go [.bool s',.int .u64 x',.int .u64 y',.pointer p']∧But [] W0 w1∧am w1 (.agg #[.bool s',.int .u64 x',.int .u64 y',.pointer p']) (f1+f2*f3)) ?_ ?_
 ·exact dep_of (ops:=opKfs) (ps:=[(15,0),(15,1),(15,2),(15,3),(15,4),(15,5),(15,6),(15,7),(15,8),(15,9),(15,10),(15,11),(15,12),(15,13),(15,14)]) (by kernel_rfl) 15 i (by
   have:i=0∨i=1∨i=2∨i=3∨i=4∨i=5∨i=6∨i=7∨i=8∨i=9∨i=10∨i=11∨i=12∨i=13∨i=14:=by omega
   rcases this with rfl | rfl | rfl | rfl | rfl | rfl | rfl | rfl | rfl | rfl | rfl | rfl | rfl | rfl | rfl <;> simp)
 ·intro dn i o a w K hi ho hdi hH he hdep hK
  have hD:=fun j hj=>(dep_have (ps:=[(3,1),(3,2),(7,5),(7,6),(8,4),(8,7),(9,8),(12,10),(12,11),(13,9),(13,12),(14,0),(14,1),(14,2),(14,3),(14,4),(14,5),(14,6),(14,7),(14,8),(14,9),(14,10),(14,11),(14,12),(14,13)]) (by kernel_rfl) ho (fun j=>dn j=true∧opKfC gb go N ia ka s1 x1 y1 p1 s2 x2 y2 p2 s3 x3 y3 p3 f1 f2 f3 j w (a.eval (.tmp (opKfT j)))) hdep j hj).2
  have hk:∀ v w',But [] w w'→opKfC gb go N ia ka s1 x1 y1 p1 s2 x2 y2 p2 s3 x3 y3 p3 f1 f2 f3 i w' v→K (a.put (some (opKfT i)) v) w':=fun v w' hb hv=>hK v w' (hH.trans' hb) (fun j hj _ u hu=>opKfC_but hu hj hb) hv
  have e5':=(he 5 (fun j hj e=>absurd e.symm (by revert j;decide))).trans e5
  have e6':=(he 6 (fun j hj e=>absurd e.symm (by revert j;decide))).trans e6
  have e8':=(he 8 (fun j hj e=>absurd e.symm (by revert j;decide))).trans e8
  have e7':=(he 7 (fun j hj e=>absurd e.symm (by revert j;decide))).trans e7
  have e9':=(he 9 (fun j hj e=>absurd e.symm (by revert j;decide))).trans e9
  have:i=0∨i=1∨i=2∨i=3∨i=4∨i=5∨i=6∨i=7∨i=8∨i=9∨i=10∨i=11∨i=12∨i=13∨i=14:=by omega
  rcases this with rfl | rfl | rfl | rfl | rfl | rfl | rfl | rfl | rfl | rfl | rfl | rfl | rfl | rfl | rfl
  ·obtain rfl:=Option.some.inj ((show opKfs[0]? = some opKf0 from rfl).symm.trans ho)
   exact al (bh a w _ _ _ _ _ _ _ e5') (hk _ _ (But.refl _ _) rfl)
  ·obtain rfl:=Option.some.inj ((show opKfs[1]? = some opKf1 from rfl).symm.trans ho)
   exact al (bh a w _ _ _ _ _ _ _ e6') (hk _ _ (But.refl _ _) rfl)
  ·obtain rfl:=Option.some.inj ((show opKfs[2]? = some opKf2 from rfl).symm.trans ho)
   exact al (bh a w _ _ _ _ _ _ _ e8') (hk _ _ (But.refl _ _) rfl)
  ·obtain rfl:=Option.some.inj ((show opKfs[3]? = some opKf3 from rfl).symm.trans ho)
   exact al (run_plusK a w _ _ _ _ _ _ _ ia ka hi1 hk1 (hD 1 (by simp)) (hD 2 (by simp))) (hk _ _ (But.refl _ _) rfl)
  ·obtain rfl:=Option.some.inj ((show opKfs[4]? = some opKf4 from rfl).symm.trans ho)
   exact al (bh a w _ _ _ _ _ _ _ e5') (hk _ _ (But.refl _ _) rfl)
  ·obtain rfl:=Option.some.inj ((show opKfs[5]? = some opKf5 from rfl).symm.trans ho)
   exact al (bh a w _ _ _ _ _ _ _ e6') (hk _ _ (But.refl _ _) rfl)
  ·obtain rfl:=Option.some.inj ((show opKfs[6]? = some opKf6 from rfl).symm.trans ho)
   exact al (bh a w _ _ _ _ _ _ _ e8') (hk _ _ (But.refl _ _) rfl)
  ·obtain rfl:=Option.some.inj ((show opKfs[7]? = some opKf7 from rfl).symm.trans ho)
   exact al (run_plusK a w _ _ _ _ _ _ _ ia ka hi1 hk1 (hD 5 (by simp)) (hD 6 (by simp))) (hk _ _ (But.refl _ _) rfl)
  ·obtain rfl:=Option.some.inj ((show opKfs[8]? = some opKf8 from rfl).symm.trans ho)
   refine al (run_indexK a w _ _ _ _ _ _ _ gb 0 N N (ia+ka) hN hN2 (hD 4 (by simp)) (hD 7 (by simp))) (hk _ _ (But.refl _ _) ?_)
   show Value.pointer _=Value.pointer _
   rw [hgo,Nat.zero_add]
  ·obtain rfl:=Option.some.inj ((show opKfs[9]? = some opKf9 from rfl).symm.trans ho)
   exact al (aq a w _ _ _ _ _ _ gb go _ _ _ _ (hD 8 (by simp)) (c1.but (hdr hH) (by simp))) (hk _ _ (But.refl _ _) rfl)
  ·obtain rfl:=Option.some.inj ((show opKfs[10]? = some opKf10 from rfl).symm.trans ho)
   exact al (aq a w _ _ _ _ _ _ g7 0 _ _ _ _ e7' (c2.but (hdr hH) (by simp))) (hk _ _ (But.refl _ _) rfl)
  ·obtain rfl:=Option.some.inj ((show opKfs[11]? = some opKf11 from rfl).symm.trans ho)
   exact al (aq a w _ _ _ _ _ _ g9 0 _ _ _ _ e9' (c3.but (hdr hH) (by simp))) (hk _ _ (But.refl _ _) rfl)
  ·obtain rfl:=Option.some.inj ((show opKfs[12]? = some opKf12 from rfl).symm.trans ho)
   exact av (run_mulK a w _ _ _ _ _ _ _ _ _ (hD 10 (by simp)) (hD 11 (by simp))) (R:=fun w' v=>am w' v (f2*f3)∧But [] w w') (MU w (hdr hH)) (fun v w' hv=>hk v w' hv.2 hv.1)
  ·obtain rfl:=Option.some.inj ((show opKfs[13]? = some opKf13 from rfl).symm.trans ho)
   exact av (run_addK a w _ _ _ _ _ _ _ _ _ (hD 9 (by simp)) rfl) (R:=fun w' v=>am w' v (f1+f2*f3)∧But [] w w') (AD w (hdr hH) _ (hD 12 (by simp))) (fun v w' hv=>hk v w' hv.2 hv.1)
  ·obtain rfl:=Option.some.inj ((show opKfs[14]? = some opKf14 from rfl).symm.trans ho)
   refine al (run_indexK a w _ _ _ _ _ _ _ gb 0 N N (ia+ka) hN hN2 (hD 0 (by simp)) (hD 3 (by simp))) (hk _ _ (But.refl _ _) ?_)
   show Value.pointer _=Value.pointer _
   rw [hgo,Nat.zero_add]
 ·intro dn o a w K ho hall h hK
  obtain rfl:=Option.some.inj ((show opKfs[15]? = some opKf15 from rfl).symm.trans ho)
  have eb':a.eval (.tmp 48)=.pointer (some ⟨gb,go,none⟩):=h.has 14 (by omega) (hall 14 (by omega))
  have cl:am w (a.eval (.tmp 47)) (f1+f2*f3):=h.has 13 (by omega) (hall 13 (by omega))
  have cl':=cl
  obtain ⟨x',y',p',ev,-⟩:=cl.agg
  rw [ev] at cl'
  have ea:=h.puts hT (fun i=>match i with
   | 0=>.slice (some ⟨gb,0,none⟩) N N
   | 1=>.int .i64 (ia:Int)
   | 2=>.int .i64 (ka:Int)
   | 3=>.int .i64 ((ia+ka:Nat):Int)
   | 4=>.slice (some ⟨gb,0,none⟩) N N
   | 5=>.int .i64 (ia:Int)
   | 6=>.int .i64 (ka:Int)
   | 7=>.int .i64 ((ia+ka:Nat):Int)
   | 8=>.pointer (some ⟨gb,go,none⟩)
   | 9=>.agg #[.bool s1,.int .u64 x1,.int .u64 y1,.pointer p1]
   | 10=>.agg #[.bool s2,.int .u64 x2,.int .u64 y2,.pointer p2]
   | 11=>.agg #[.bool s3,.int .u64 x3,.int .u64 y3,.pointer p3]
   | 12=>a.eval (.tmp 46)
   | 13=>.agg #[.bool (decide ((f1+f2*f3).num<0)),.int .u64 x',.int .u64 y',.pointer p']
   | _=>.pointer (some ⟨gb,go,none⟩)) (fun i hi=>by
   have hc:=h.has i hi (hall i hi)
   have:i=0∨i=1∨i=2∨i=3∨i=4∨i=5∨i=6∨i=7∨i=8∨i=9∨i=10∨i=11∨i=12∨i=13∨i=14:=by omega
   rcases this with rfl | rfl | rfl | rfl | rfl | rfl | rfl | rfl | rfl | rfl | rfl | rfl | rfl | rfl | rfl
   all_goals first | exact ev | exact hc | rfl)
  exact wp_skipped (run_store4o a w _ _ _ _ _ gb go _ x' y' p' eb' ev (cb.but (hdr h.mem) (by simp)) (fun j=>((hdr h.mem).frozen (p:=⟨gb,j,none⟩) lgb (by simp)).trans (fzb j))) (hK _ _ ⟨w,a.eval (.tmp 46),_,x',y',p',ea,rfl,hdr h.mem,cl'⟩)
 ·rintro a w ⟨w1,v12,s',x',y',p',rfl,rfl,h1,h2⟩
  exact hQ  w1 v12 s' x' y' p' h1 h2
theorem greatest_any (v:Value) (fs:List Rat) (m:Nat) (w:World) (hv:an w v fs) (hn:fs.length≤1000) (hm:m<fs.length) (h1:(fs[m]?.getD 0).num≠0) (h2:∀ j,m<j→j<fs.length→(fs[j]?.getD 0).num=0) :
  Calls Tryz.prog 52 #[v] w fun e w'=>e=.returned (.int .i64 (m:Int))∧But [] w w':=by
 rcases hv.open with ⟨rfl,-⟩ | ⟨-,b,off,cap,rfl,-,-⟩
 ·simp at hm
 obtain ⟨n,hN⟩:∃ n,n=fs.length:=⟨_,rfl⟩
 rw [← hN] at hn hm h2 ⊢
 rw [← hN] at hv
 have HV:=af hv
 have H1:=af h1
 have H2:=af h2
 clear hv h1 h2 hN
 have hn1:((n:Int)-1)=((n-1:Nat):Int):=by omega
 go_enter Tryz.func52,Tryz.ntmps52
 go_wp2
 go_loopw [3] (fun iv wr=>∃ k:Nat,m≤k∧k<n∧iv=.int .i64 (k:Int)∧Hid (But [] w wr)) (fun iv _=>(intOf iv).toNat)
 case atStart=>exact ⟨n-1,by omega,by omega,by first | rfl | rw [hn1],But.refl _ _⟩
 case round =>
  obtain ⟨k,hmk,hkn,rfl,HI⟩:=hrel
  rename World=>wr
  obtain ⟨sr,xr,yr,pr,⟨r0,r1,r2,r3⟩,hfr⟩:=((ae HV).but (ae HI)).get k hkn
  have SG:=af (fracSign_any _ _ wr hfr)
  clear hfr
  by_cases hk:k=m
  ·subst hk
   have hs:(fs[k]?.getD 0).num.sign≠0:=fun e=>ae H1 (Int.sign_eq_zero_iff_zero.1 e)
   generalize (fs[k]?.getD 0).num.sign=sg at *
   go_wp2_with fail
   refine (ae SG).mono ?_
   rintro e w1 ⟨rfl,hb1⟩
   have B1:=af ((ae HI).trans' hb1)
   clear hb1
   go_wp2
   go_ret
   exact ⟨rfl,ae B1⟩
  ·rw [ae H2 k (by omega) hkn,Int.sign_zero] at SG
   go_wp2_with fail
   refine (ae SG).mono ?_
   rintro e w1 ⟨rfl,hb1⟩
   have B1:=af ((ae HI).trans' hb1)
   clear hb1
   have hk1:((k:Int)-1)=((k-1:Nat):Int):=by omega
   go_wp2
   exact ⟨⟨k-1,by omega,by omega,by first | rfl | rw [hk1],ae B1⟩,by simp [intOf];omega⟩
theorem quotient_any (vf vg:Value) (f g:Rat) (w:World) (hf:am w vf f) (hg:am w vg g) (lf:Len f 1000000) (lg:Len g 1000000) (h0:g.num≠0) :
  Calls Tryz.prog 76 #[vf,vg] w fun e w'=>∃ v,e=.returned v∧am w' v (f/g)∧But [] w w':=by
 have DV:Hid (∀ (W:World),am W vf f→am W vg g→Calls Tryz.prog 46 #[vf,vg] W fun e w'=>∃ v,e=.returned (.tuple #[v,.nilIface])∧am w' v (f/g)∧But [] W w'):=fun W h1 h2=>fracDiv_any vf vg f g W h1 h2 lf lg h0
 have HFA:=af hf
 have HGA:=af hg
 obtain ⟨x1,y1,p1,rfl,-⟩:=hf.agg
 obtain ⟨x2,y2,p2,rfl,-⟩:=hg.agg
 clear hf hg lf lg h0
 generalize hsf:decide (f.num<0)=s1 at *
 generalize hsg:decide (g.num<0)=s2 at *
 clear hsf hsg
 obtain ⟨W,hW⟩:∃ W,W=(((w.alloc (.cells #[.bool s1,.int .u64 x1,.int .u64 y1,.pointer p1] 29)).alloc (.cells #[.bool s2,.int .u64 x2,.int .u64 y2,.pointer p2] 29)).alloc (.cells #[.bool false,.int .u64 0,.int .u64 0,.pointer none] 29)):=⟨_,rfl⟩
 obtain ⟨tA,tB,tC,fz,hB⟩:=three_new w W _ _ _ _ hW
 have a0:=tA 0
 have a1:=tA 1
 have a2:=tA 2
 have a3:=tA 3
 have b0:=tB 0
 have b1:=tB 1
 have b2:=tB 2
 have b3:=tB 3
 have r0:=tC 0
 have r1:=tC 1
 have r2:=tC 2
 have r3:=tC 3
 simp only [List.getElem?_toArray,List.getElem?_cons_zero,List.getElem?_cons_succ] at a0 a1 a2 a3 b0 b1 b2 b3 r0 r1 r2 r3
 have BL:Hid (Blank W (w.heap.size+2)):=⟨r0,r1,r2,r3,fun j hj=>by rw [tC j];simp;omega⟩
 clear tA tB tC
 have HW:=af hW
 have HB:=af hB
 clear hW hB
 go_enter Tryz.func76,Tryz.ntmps76
 go_wp2_with fail
 rw [← ae HW]
 obtain ⟨ga,hga⟩:∃ ga,ga=w.heap.size:=⟨_,rfl⟩
 obtain ⟨gb,hgb⟩:∃ gb,gb=w.heap.size+1:=⟨_,rfl⟩
 obtain ⟨gr,hgr⟩:∃ gr,gr=w.heap.size+2:=⟨_,rfl⟩
 rw [← hga] at a0 a1 a2 a3
 rw [← hgb] at b0 b1 b2 b3
 rw [← hgr] at r0 r1 r2 r3 fz BL
 rw [show w.heap.size+1+1=w.heap.size+2 from rfl,← hgr,← hgb,← hga]
 have HGR:Hid (w.heap.size≤gr):=by show _≤_;omega
 clear hga hgb hgr HW
 have grl:gr<W.heap.size:=ai r0
 refine (ae DV _ ((ae HFA).but (ae HB)) ((ae HGA).but (ae HB))).mono ?_
 rintro e w2 ⟨v2,rfl,hn2,hc2⟩
 have HN2:=af hn2
 obtain ⟨x8,y8,p8,rfl,-⟩:=hn2.agg
 clear hn2
 generalize decide ((f/g).num<0)=r8 at *
 have u0:=hc2.ag r0 (by simp)
 have u1:=hc2.ag r1 (by simp)
 have u2:=hc2.ag r2 (by simp)
 have u3:=hc2.ag r3 (by simp)
 have uf:∀ j,w2.frozen? ⟨gr,j,none⟩=false:=fun j=>(hc2.frozen (p:=⟨gr,j,none⟩) grl (by simp)).trans (fz j)
 have B2:=af hc2
 have gl2:gr<w2.heap.size:=ai u0
 clear hc2 a0 a1 a2 a3 b0 b1 b2 b3 r0 r1 r2 r3 fz grl
 go_wp2
 have hBg:But [gr] w2 ((((w2.setCell ⟨gr,0,none⟩ (.bool r8)).setCell ⟨gr,1,none⟩ (.int .u64 x8)).setCell ⟨gr,2,none⟩ (.int .u64 y8)).setCell ⟨gr,3,none⟩ (.pointer p8)):=(((((But.refl [gr] w2).setCell (.inl (by simp)) _).setCell (.inl (by simp)) _).setCell (.inl (by simp)) _).setCell (.inl (by simp)) _)
 have hBf:=(((((ae HB).trans' (ae B2)).trans hBg (fun x hx=>by simp at hx;subst hx;exact .inr (ae HGR)))).alloc (.cells #[.bool r8,.int .u64 x8,.int .u64 y8,.pointer p8] 29))
 exact bodyPost_ret (v:=.agg #[.bool r8,.int .u64 x8,.int .u64 y8,.pointer p8]) (by simp [results,Tryz.results76,go_sem,u0,u1,u2,u3,gl2]) rfl ⟨_,rfl,(((ae BL).but (ae B2)).frac (ae HN2) hBg).but ((But.refl _ _).alloc _),hBf⟩
theorem short_any (b off cap n:Nat) (fs:List Rat) (m:Nat) (w:World) (hv:an w (.slice (some ⟨b,off,none⟩) n cap) fs) (hN:n=fs.length) (hcap:n≤cap) (hn:fs.length≤1000) (hm:m<fs.length) (h1:(fs[m]?.getD 0).num≠0) (h2:∀ j,m<j→j<fs.length→(fs[j]?.getD 0).num=0) :
  Calls Tryz.prog 55 #[.slice (some ⟨b,off,none⟩) n cap] w fun e w'=>e=.returned (.slice (some ⟨b,off,none⟩) (m+1) cap)∧an w' (.slice (some ⟨b,off,none⟩) (m+1) cap) (fs.take (m+1))∧But [] w w':=by
 have GR:=af (greatest_any _ fs m w hv hn hm h1 h2)
 have HV:=af hv
 have HN:=af hN
 have hmn:m<n:=by omega
 have hm3:m<1000:=by omega
 clear hv h1 h2 hN hm
 go_enter Tryz.func55,Tryz.ntmps55
 go_wp2_with fail
 refine (ae GR).mono ?_
 rintro e w1 ⟨rfl,hb1⟩
 have B1:=af hb1
 clear hb1 GR
 have a1:(0:Int)≤(m:Int)+1:=by omega
 have a2:(m:Int)+1≤(cap:Int):=by omega
 have a3:((m:Int)+1).toNat=m+1:=by omega
 go_wp2
 go_ret
 refine ⟨rfl,?_,ae B1⟩
 have h:=(ae HV).but (ae B1)
 rw [ae HN] at h
 exact an.take (n:=m+1) (fs:=fs) h cap (by have:=ae HN;omega) (by omega)
theorem pick_gen (a n:Int) (h1:-9223372036854775808≤a) (h2:a<9223372036854775808) (hn:0<n) (hn2:n<9223372036854775808) (w:World) :
  Calls Tryz.prog 9 #[.int .i64 a,.int .i64 n] w fun e w'=>e=.returned (.int .i64 ((((if a<0 then a + 18446744073709551616 else a)%n).toNat:Nat):Int))∧But [] w w':=by
 obtain ⟨u,hu⟩:∃ u:Int,u=if a<0 then a + 18446744073709551616 else a:=⟨_,rfl⟩
 have u1:0≤u∧u < 18446744073709551616:=by rw [hu];split <;> omega
 have e1:IntKind.u64.wrap a=u:=by rw [IntKind.wrap_u64,hu];split <;> omega
 rw [← hu]
 have e2:=Int.emod_nonneg u (show n≠0 by omega)
 have e3:=Int.emod_lt_of_pos u hn
 clear hu
 have e5:u.tmod n=u%n:=Int.tmod_eq_emod_of_nonneg u1.1
 obtain ⟨m,hm⟩:∃ m,m=u%n:=⟨_,rfl⟩
 rw [← hm] at e2 e3 e5 ⊢
 have e4:((m.toNat:Nat):Int)=m:=by omega
 rw [e4]
 have e6:IntKind.i64.wrap m=m:=by rw [IntKind.wrap_i64];omega
 have e7:IntKind.u64.wrap n=n:=by rw [IntKind.wrap_u64];omega
 have e8:IntKind.u64.wrap m=m:=by rw [IntKind.wrap_u64];omega
 have n0:(n==0)=false:=beq_eq_false_iff_ne.2 (by omega)
 have n1:n≠0:=by omega
 clear e4 hm
 go_enter Tryz.func9,Tryz.ntmps9
 go_wp2
 go_ret
 exact ⟨rfl,But.refl _ _⟩
end Go.Proofs.YtlckjpelcmjimaaGreatDoor
