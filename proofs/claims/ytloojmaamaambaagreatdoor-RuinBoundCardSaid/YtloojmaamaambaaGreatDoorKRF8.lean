/- A fraction's text, as the Go text of pac -/
import Derived.Test.YtloojmaamaambaaGreatDoorKRF10
import Derived.Test.YtloojmaamaambaaGreatDoorKRF13
import Derived.Test.YtloojmaamaambaaGreatDoorKRFW
import Derived.Test.YtloojmaamaambaaGreatDoorKRN12f
namespace Go.Proofs.YtloojmaamaambaaGreatDoor
open Go.RowKit
set_option maxHeartbeats 4000000
set_option maxRecDepth 100000
def fracTxt (s:Bool) (p q:Nat):ByteArray:=(if s then ⟨#[45]⟩++⟨(Lib.decDigits p).toArray⟩ else ⟨(Lib.decDigits p).toArray⟩)++(if q=1 then ⟨#[]⟩ else ⟨#[47]⟩++⟨(Lib.decDigits q).toArray⟩)
theorem dec_short (u:Nat) (h:(wd 18446744073709551616 u).length≤1000000):(Lib.decDigits u).length≤20000000:=by
 rcases Nat.eq_zero_or_pos u with rfl | h0
 ·rw [Lib.decDigits_length,Lib.nDigits_small (by omega)];omega
 ·rw [← rdig_rev u h0,List.length_reverse];exact dig_len u 1000000 h
theorem ba_nil (t:ByteArray):t++⟨#[]⟩=t:=by
 cases t;simp [ByteArray.ext_iff]
theorem fracText_len (v:Value) (f:Rat) (w:World) (hf:FracAt w v f) (hL:Len f 1000000) (htab:Lib.TabIs Tryz.prog w "internal/strconv.uint64pow10" .u64 Lib.pow10Tab) (t:ByteArray) (ht:Hid (t=fracTxt (decide (f.num<0)) f.num.natAbs f.den)) :
  Calls Tryz.prog 59 #[v] w fun e w'=>e=.returned (.string t)∧But [] w w':=by
 have hq0:=den_pos f
 obtain ⟨hN,hD⟩:=hL
 obtain ⟨tp,htp⟩:∃ tp:ByteArray,tp=⟨(Lib.decDigits f.num.natAbs).toArray⟩:=⟨_,rfl⟩
 obtain ⟨tq,htq⟩:∃ tq:ByteArray,tq=⟨(Lib.decDigits f.den).toArray⟩:=⟨_,rfl⟩
 have sp:tp.size≤20000000:=by rw [htp];exact dec_short _ hN
 have sq:tq.size≤20000000:=by rw [htq];exact dec_short _ hD
 have HNU:Hid (∀ W,But [] w W→Calls Tryz.prog 67 #[v] W fun e w'=>∃ v1 v2,e=.returned (.tuple #[v1,v2])∧Sl .u64 w' v1 (wd 18446744073709551616 f.num.natAbs)∧Sl .u64 w' v2 (wd 18446744073709551616 f.den)∧But [] W w'):=fun W hb=>numbers_any v f W (hf.but hb)
 have T1:Hid (∀ W v1,But [] w W→Sl .u64 W v1 (wd 18446744073709551616 f.num.natAbs)→Calls Tryz.prog 122 #[v1] W fun e w'=>e=.returned (.string tp)∧But [] W w'):=fun W v1 hb h=>natText_all v1 _ W h hN (TabIs.but htab hb) tp htp
 have T2:Hid (∀ W v1,But [] w W→Sl .u64 W v1 (wd 18446744073709551616 f.den)→Calls Tryz.prog 122 #[v1] W fun e w'=>e=.returned (.string tq)∧But [] W w'):=fun W v1 hb h=>natText_all v1 _ W h hD (TabIs.but htab hb) tq htq
 have HT:Hid (t=(if decide (f.num<0) then ⟨#[45]⟩++tp else tp)++(if f.den=1 then ⟨#[]⟩ else ⟨#[47]⟩++tq)):=by show _=_;rw [unhide ht,fracTxt,htp,htq]
 have ONE:Hid (∀ W v1 (r:Bool),Hid (r=decide (f.den=1))→Sl .u64 W v1 (wd 18446744073709551616 f.den)→Calls Tryz.prog 123 #[v1] W fun e w'=>e=.returned (.bool r)∧w'=W):=fun W v1 r hr h=>natOne_any v1 _ W h (by omega) r hr
 obtain ⟨x,y,p,rfl,-⟩:=hf.agg
 have hbw:But [] w (w.alloc (.cells #[.bool (decide (f.num<0)),.int .u64 x,.int .u64 y,.pointer p] 29)):=(But.refl _ _).alloc _
 clear htp htq ht htab hN hD hf
 generalize hs:decide (f.num<0)=s at *
 clear hs
 go_enter Tryz.func59,Tryz.ntmps59
 go_wp2_with fail
 refine (unhide HNU _ hbw).mono ?_
 rintro e w1 ⟨v1,v2,rfl,hv1,hv2,hb1⟩
 have B1:=hide (hbw.trans' hb1)
 have HV1:=hide hv1
 have HV2:=hide hv2
 have c0:=hb1.cell_some (show (w.alloc (.cells #[.bool s,.int .u64 x,.int .u64 y,.pointer p] 29)).cell? ⟨w.heap.size,0,none⟩=some (.bool s) by simp) (by simp)
 clear hv1 hv2 hb1
 go_wp2_with fail
 refine (unhide T1 _ v1 (unhide B1) (unhide HV1)).mono ?_
 rintro e w2 ⟨rfl,hb2⟩
 have d0:=hb2.cell_some c0 (by simp)
 have B2:Hid (But [] w w2):=(unhide B1).trans' hb2
 have HV3:=hide ((unhide HV2).but_nil hb2)
 clear hb2 c0 HV2 hbw
 cases s
 all_goals
  go_wp2_with fail
  by_cases hq1:f.den=1
  ·refine (unhide ONE _ v2 true (by show true=_;simp [hq1]) (unhide HV3)).mono ?_
   rintro e w3 ⟨rfl,hw⟩
   obtain rfl:=hw.symm
   clear hw
   go_wp2
   go_ret
   exact ⟨by rw [unhide HT,if_pos hq1,ba_nil];rfl,unhide B2⟩
  ·refine (unhide ONE _ v2 false (by show false=_;simp [hq1]) (unhide HV3)).mono ?_
   rintro e w3 ⟨rfl,hw⟩
   obtain rfl:=hw.symm
   clear hw
   go_wp2_with fail
   refine (unhide T2 _ v2 (unhide B2) (unhide HV3)).mono ?_
   rintro e w3 ⟨rfl,hb3⟩
   go_wp2
   go_ret
   exact ⟨by rw [unhide HT,if_neg hq1];rfl,(unhide B2).trans' hb3⟩
end Go.Proofs.YtloojmaamaambaaGreatDoor

namespace Go.Proofs.YtloojmaamaambaaGreatDoor
open Go.RowKit
set_option maxHeartbeats 8000000
set_option maxRecDepth 100000
theorem rat_ex (s:Bool) (p q:Nat) (hq:0<q) (hc:Nat.Coprime p q):∃ f:Rat,f.num=sgn s p∧f.den=q :=
 ⟨⟨sgn s p,q,by omega,by rw [sgn_abs];exact hc⟩,rfl,rfl⟩
theorem gcd_cop (x y:Nat) (hy:0<y):Nat.Coprime (x/Nat.gcd x y) (y/Nat.gcd x y):=Nat.coprime_div_gcd_div_gcd (Nat.gcd_pos_of_pos_right _ hy)
theorem len_of {f:Rat} {m n:Nat} (h1:f.num.natAbs < 18446744073709551616^m) (h2:f.den < 18446744073709551616^n) (k:Nat) (hm:m≤k) (hn:n≤k):Len f k :=
 ⟨Nat.le_trans (wd_length_le (by omega) _ _ h1) hm,Nat.le_trans (wd_length_le (by omega) _ _ h2) hn⟩
theorem Len.mono {f:Rat} {m n:Nat} (h:Len f m) (hn:m≤n):Len f n:=⟨Nat.le_trans h.1 hn,Nat.le_trans h.2 hn⟩
theorem Len.lt {f:Rat} {m:Nat} (h:Len f m):f.num.natAbs < 18446744073709551616^m∧f.den < 18446744073709551616^m:=⟨lt_of_wd_length (by omega) _ _ h.1,lt_of_wd_length (by omega) _ _ h.2⟩
theorem len_mul {f g:Rat} {m n:Nat} (h1:Len f m) (h2:Len g n) (k:Nat) (hk:m+n≤k):Len (f*g) k:=by
 obtain ⟨a1,a2⟩:=h1.lt
 obtain ⟨c1,c2⟩:=h2.lt
 obtain ⟨e1,e2⟩:=mul_low f g _ _ rfl rfl
 refine len_of (m:=m+n) (n:=m+n) ?_ ?_ k hk hk
 ·rw [e1,sgn_abs,Nat.pow_add]
  exact Nat.mul_lt_mul'' (Nat.lt_of_le_of_lt (Nat.div_le_self _ _) a1) (Nat.lt_of_le_of_lt (Nat.div_le_self _ _) c1)
 ·rw [e2,Nat.pow_add]
  exact Nat.mul_lt_mul'' (Nat.lt_of_le_of_lt (Nat.div_le_self _ _) a2) (Nat.lt_of_le_of_lt (Nat.div_le_self _ _) c2)
theorem len_add {f g:Rat} {m n:Nat} (h1:Len f m) (h2:Len g n) (k:Nat) (hk:m+n+1≤k):Len (f+g) k:=by
 obtain ⟨a1,a2⟩:=h1.lt
 obtain ⟨c1,c2⟩:=h2.lt
 obtain ⟨M,s,hM⟩:∃ (M:Nat) (s:Bool),f.num*(g.den/Nat.gcd f.den g.den:Nat)+g.num*(f.den/Nat.gcd f.den g.den:Nat)=sgn s M:=by
  generalize f.num*(g.den/Nat.gcd f.den g.den:Nat)+g.num*(f.den/Nat.gcd f.den g.den:Nat)=z
  by_cases hz:z<0
  ·exact ⟨z.natAbs,true,by simp [sgn];omega⟩
  ·exact ⟨z.natAbs,false,by simp [sgn];omega⟩
 obtain ⟨e1,e2⟩:=add_low f g s M _ _ rfl rfl hM
 have hMl:M < 18446744073709551616^(m+n+1):=by
  have h3:M≤f.num.natAbs*(g.den/Nat.gcd f.den g.den)+g.num.natAbs*(f.den/Nat.gcd f.den g.den):=by
   rw [← sgn_abs s M,← hM]
   refine Nat.le_trans (Int.natAbs_add_le _ _) ?_
   rw [Int.natAbs_mul,Int.natAbs_mul,Int.natAbs_natCast,Int.natAbs_natCast]
   exact Nat.le_refl _
  have h4:f.num.natAbs*(g.den/Nat.gcd f.den g.den) < 18446744073709551616^m * 18446744073709551616^n:=Nat.mul_lt_mul'' a1 (Nat.lt_of_le_of_lt (Nat.div_le_self _ _) c2)
  have h5:g.num.natAbs*(f.den/Nat.gcd f.den g.den) < 18446744073709551616^n * 18446744073709551616^m:=Nat.mul_lt_mul'' c1 (Nat.lt_of_le_of_lt (Nat.div_le_self _ _) a2)
  rw [Nat.mul_comm (18446744073709551616^n)] at h5
  rw [Nat.pow_succ,Nat.pow_add]
  generalize 18446744073709551616^m * 18446744073709551616^n=P at *
  omega
 refine len_of (m:=m+n+1) (n:=m+n) ?_ ?_ k hk (by omega)
 ·rw [e1,sgn_abs];exact Nat.lt_of_le_of_lt (Nat.div_le_self _ _) hMl
 ·rw [e2,Nat.pow_add]
  exact Nat.mul_lt_mul'' (Nat.lt_of_le_of_lt (Nat.div_le_self _ _) a2) (Nat.lt_of_le_of_lt (Nat.div_le_self _ _) c2)
theorem len_neg {f:Rat} {m:Nat} (h:Len f m):Len (-f) m:=by
 unfold Len
 rw [Rat.neg_num,Rat.neg_den,Int.natAbs_neg]
 exact h
theorem len_sub {f g:Rat} {m n:Nat} (h1:Len f m) (h2:Len g n) (k:Nat) (hk:m+n+1≤k):Len (f-g) k:=by
 rw [Rat.sub_eq_add_neg];exact len_add h1 (len_neg h2) k hk
theorem len_inv {f:Rat} {m:Nat} (h:Len f m) (h0:f.num≠0):Len f⁻¹ m:=by
 obtain ⟨i1,i2,-⟩:=inv_facts f h0
 unfold Len
 rw [i1,i2]
 exact ⟨h.2,h.1⟩
theorem len_div {f g:Rat} {m n:Nat} (h1:Len f m) (h2:Len g n) (h0:g.num≠0) (k:Nat) (hk:m+n≤k):Len (f/g) k:=by
 rw [Rat.div_def];exact len_mul h1 (len_inv h2 h0) k hk
theorem of_rel (x y:Int) (p q k:Nat) (hx:x.natAbs=p*k) (hy:y.natAbs=q*k):sgn (decide (x<0) != decide (y<0)) p*y=x*q:=by
 have ex:x=sgn (decide (x<0)) (p*k):=by
  by_cases h:x<0
  ·simp [sgn,h];omega
  ·simp [sgn,h];omega
 have ey:y=sgn (decide (y<0)) (q*k):=by
  by_cases h:y<0
  ·simp [sgn,h];omega
  ·simp [sgn,h];omega
 generalize decide (x<0)=a at *
 generalize decide (y<0)=b at *
 rw [ex,ey]
 cases a <;> cases b <;> simp [sgn,Int.natCast_mul] <;> grind
theorem fracOf_at (x y:Int) (hx1:-9223372036854775808≤x) (hx2:x<9223372036854775808) (hy1:-9223372036854775808≤y) (hy2:y<9223372036854775808) (hy0:y≠0) :
  ∃ (f:Rat) (r:Bool) (p q:Int),Len f 1∧f.num*y=x*f.den∧(∀ W,FracAt W (.agg #[.bool r,.int .u64 p,.int .u64 q,.pointer none]) f)∧∀ W,Calls Tryz.prog 47 #[.int .i64 x,.int .i64 y] W fun e w'=>e=.returned (.tuple #[.agg #[.bool r,.int .u64 p,.int .u64 q,.pointer none],.nilIface])∧But [] W w':=by
 have hyp:0<y.natAbs:=by omega
 have hg:0<Nat.gcd x.natAbs y.natAbs:=Nat.gcd_pos_of_pos_right _ hyp
 have hd1:=Nat.div_mul_cancel (Nat.gcd_dvd_left x.natAbs y.natAbs)
 have hd2:=Nat.div_mul_cancel (Nat.gcd_dvd_right x.natAbs y.natAbs)
 have hq0:0<y.natAbs/Nat.gcd x.natAbs y.natAbs:=Nat.div_pos (Nat.le_of_dvd hyp (Nat.gcd_dvd_right _ _)) hg
 have hpB:x.natAbs/Nat.gcd x.natAbs y.natAbs < 18446744073709551616:=Nat.lt_of_le_of_lt (Nat.div_le_self _ _) (by omega)
 have hqB:y.natAbs/Nat.gcd x.natAbs y.natAbs < 18446744073709551616:=Nat.lt_of_le_of_lt (Nat.div_le_self _ _) (by omega)
 obtain ⟨f,hn,hd⟩:=rat_ex (decide (x<0) != decide (y<0)) _ _ hq0 (gcd_cop x.natAbs y.natAbs hyp)
 have habs:f.num.natAbs=x.natAbs/Nat.gcd x.natAbs y.natAbs:=by rw [hn,sgn_abs]
 refine ⟨f,decide (f.num<0),(f.num.natAbs:Int),(f.den:Int)-1,?_,?_,fun W=>.inl ⟨by rw [habs];exact hpB,by rw [hd];exact hqB,rfl⟩,fun W=>?_⟩
 ·exact len_of (m:=1) (n:=1) (by rw [habs,Nat.pow_one];exact hpB) (by rw [hd,Nat.pow_one];exact hqB) 1 (Nat.le_refl _) (Nat.le_refl _)
 ·rw [hn,hd]
  exact of_rel x y _ _ _ hd1.symm hd2.symm
 ·rw [habs,hd]
  exact fracOf_any x y hx1 hx2 hy1 hy2 hy0 W _ _ _ (by show _=_;rw [hn,sgn_neg]) rfl rfl
theorem plainF_any (x y:Int) (hx1:-9223372036854775808≤x) (hx2:x<9223372036854775808) (hy1:-9223372036854775808≤y) (hy2:y<9223372036854775808) :
  ∃ (f:Rat) (r:Bool) (p q:Int),Len f 1∧f.num*(if y=0 then 1 else y)=x*f.den∧(∀ W,FracAt W (.agg #[.bool r,.int .u64 p,.int .u64 q,.pointer none]) f)∧∀ W,Calls Tryz.prog 10 #[.agg #[.int .i64 x,.int .i64 y]] W fun e w'=>e=.returned (.agg #[.bool r,.int .u64 p,.int .u64 q,.pointer none])∧But [] W w':=by
 by_cases hy0:y=0
 ·subst hy0
  obtain ⟨f,r,p,q,h1,h2,h3,h4⟩:=fracOf_at x 1 hx1 hx2 (by omega) (by omega) (by omega)
  refine ⟨f,r,p,q,h1,by rw [if_pos rfl];exact h2,h3,fun w=>?_⟩
  have OF:=hide h4
  clear h1 h2 h3 h4
  go_enter Tryz.func10,Tryz.ntmps10
  go_wp2_with fail
  obtain ⟨W,hW⟩:∃ W,W=(w.alloc (.cells #[.int .i64 x,.int .i64 1] 23)).alloc (.cells #[.bool false,.int .u64 0,.int .u64 0,.pointer none] 29):=⟨_,rfl⟩
  have r0:W.cell? ⟨w.heap.size+1,0,none⟩=some (.bool false):=by rw [hW];simp
  have r1:W.cell? ⟨w.heap.size+1,1,none⟩=some (.int .u64 0):=by rw [hW];simp
  have r2:W.cell? ⟨w.heap.size+1,2,none⟩=some (.int .u64 0):=by rw [hW];simp
  have r3:W.cell? ⟨w.heap.size+1,3,none⟩=some (.pointer none):=by rw [hW];simp
  have fz:∀ j,W.frozen? ⟨w.heap.size+1,j,none⟩=false:=fun j=>by rw [hW];simp
  have hB:But [] w W:=by rw [hW];exact ((But.refl _ _).alloc _).alloc _
  rw [← hW]
  clear hW
  obtain ⟨gr,hgr⟩:∃ gr,gr=w.heap.size+1:=⟨_,rfl⟩
  rw [← hgr] at r0 r1 r2 r3 fz
  rw [← hgr]
  have HGR:Hid (w.heap.size≤gr):=by show _≤_;omega
  clear hgr
  have grl:gr<W.heap.size:=lt_of_cell r0
  refine (unhide OF _).mono ?_
  rintro e w1 ⟨rfl,hb1⟩
  have u0:=hb1.cell_some r0 (by simp)
  have u1:=hb1.cell_some r1 (by simp)
  have u2:=hb1.cell_some r2 (by simp)
  have u3:=hb1.cell_some r3 (by simp)
  have uf:∀ j,w1.frozen? ⟨gr,j,none⟩=false:=fun j=>(hb1.frozen (p:=⟨gr,j,none⟩) grl (by simp)).trans (fz j)
  have HB1:Hid (But [] w w1):=hB.trans' hb1
  have gl1:gr<w1.heap.size:=lt_of_cell u0
  clear hb1 hB r0 r1 r2 r3 fz grl
  go_wp2
  have hBf:=(((((unhide HB1).setCell (p:=⟨gr,0,none⟩) (.inr (unhide HGR)) (.bool r)).setCell (p:=⟨gr,1,none⟩) (.inr (unhide HGR)) (.int .u64 p)).setCell (p:=⟨gr,2,none⟩) (.inr (unhide HGR)) (.int .u64 q)).setCell (p:=⟨gr,3,none⟩) (.inr (unhide HGR)) (.pointer none)).alloc (.cells #[.bool r,.int .u64 p,.int .u64 q,.pointer none] 29)
  exact bodyPost_ret (v:=.agg #[.bool r,.int .u64 p,.int .u64 q,.pointer none]) (by simp [results,Tryz.results10,go_sem,u0,u1,u2,u3,gl1]) rfl ⟨rfl,hBf⟩
 ·obtain ⟨f,r,p,q,h1,h2,h3,h4⟩:=fracOf_at x y hx1 hx2 hy1 hy2 hy0
  refine ⟨f,r,p,q,h1,by rw [if_neg hy0];exact h2,h3,fun w=>?_⟩
  have n0:(y==0)=false:=by simp [hy0]
  have OF:=hide h4
  clear h1 h2 h3 h4
  go_enter Tryz.func10,Tryz.ntmps10
  go_wp2_with fail
  obtain ⟨W,hW⟩:∃ W,W=(w.alloc (.cells #[.int .i64 x,.int .i64 y] 23)).alloc (.cells #[.bool false,.int .u64 0,.int .u64 0,.pointer none] 29):=⟨_,rfl⟩
  have r0:W.cell? ⟨w.heap.size+1,0,none⟩=some (.bool false):=by rw [hW];simp
  have r1:W.cell? ⟨w.heap.size+1,1,none⟩=some (.int .u64 0):=by rw [hW];simp
  have r2:W.cell? ⟨w.heap.size+1,2,none⟩=some (.int .u64 0):=by rw [hW];simp
  have r3:W.cell? ⟨w.heap.size+1,3,none⟩=some (.pointer none):=by rw [hW];simp
  have fz:∀ j,W.frozen? ⟨w.heap.size+1,j,none⟩=false:=fun j=>by rw [hW];simp
  have hB:But [] w W:=by rw [hW];exact ((But.refl _ _).alloc _).alloc _
  rw [← hW]
  clear hW
  obtain ⟨gr,hgr⟩:∃ gr,gr=w.heap.size+1:=⟨_,rfl⟩
  rw [← hgr] at r0 r1 r2 r3 fz
  rw [← hgr]
  have HGR:Hid (w.heap.size≤gr):=by show _≤_;omega
  clear hgr
  have grl:gr<W.heap.size:=lt_of_cell r0
  refine (unhide OF _).mono ?_
  rintro e w1 ⟨rfl,hb1⟩
  have u0:=hb1.cell_some r0 (by simp)
  have u1:=hb1.cell_some r1 (by simp)
  have u2:=hb1.cell_some r2 (by simp)
  have u3:=hb1.cell_some r3 (by simp)
  have uf:∀ j,w1.frozen? ⟨gr,j,none⟩=false:=fun j=>(hb1.frozen (p:=⟨gr,j,none⟩) grl (by simp)).trans (fz j)
  have HB1:Hid (But [] w w1):=hB.trans' hb1
  have gl1:gr<w1.heap.size:=lt_of_cell u0
  clear hb1 hB r0 r1 r2 r3 fz grl
  go_wp2
  have hBf:=(((((unhide HB1).setCell (p:=⟨gr,0,none⟩) (.inr (unhide HGR)) (.bool r)).setCell (p:=⟨gr,1,none⟩) (.inr (unhide HGR)) (.int .u64 p)).setCell (p:=⟨gr,2,none⟩) (.inr (unhide HGR)) (.int .u64 q)).setCell (p:=⟨gr,3,none⟩) (.inr (unhide HGR)) (.pointer none)).alloc (.cells #[.bool r,.int .u64 p,.int .u64 q,.pointer none] 29)
  exact bodyPost_ret (v:=.agg #[.bool r,.int .u64 p,.int .u64 q,.pointer none]) (by simp [results,Tryz.results10,go_sem,u0,u1,u2,u3,gl1]) rfl ⟨rfl,hBf⟩
end Go.Proofs.YtloojmaamaambaaGreatDoor

namespace Go.Proofs.YtloojmaamaambaaGreatDoor
open Go.RowKit
theorem int_parts (n:Int):((n:Int):Rat).num=n∧((n:Int):Rat).den=1:=⟨by simp,by simp⟩
theorem len_int (n:Int) (h:n.natAbs < 18446744073709551616):Len ((n:Int):Rat) 1:=by
 obtain ⟨h1,h2⟩:=int_parts n
 exact len_of (m:=1) (n:=1) (by rw [h1,Nat.pow_one];exact h) (by rw [h2];decide) 1 (Nat.le_refl _) (Nat.le_refl _)
theorem whole_is (x:Int) (h1:-9223372036854775808≤x) (h2:x<9223372036854775808) :
  ∃ (r:Bool) (p:Int),(∀ W,FracAt W (.agg #[.bool r,.int .u64 p,.int .u64 0,.pointer none]) ((x:Int):Rat))∧∀ W,Calls Tryz.prog 27 #[.int .i64 x] W fun e w'=>e=.returned (.agg #[.bool r,.int .u64 p,.int .u64 0,.pointer none])∧But [] W w':=by
 obtain ⟨e1,e2⟩:=int_parts x
 refine ⟨decide (x<0),((x.natAbs:Nat):Int),fun W=>.inl ⟨by rw [e1];omega,by rw [e2];decide,by rw [e1,e2];rfl⟩,fun W=>?_⟩
 have h:=whole_any x h1 h2 W
 rw [show (((1:Nat):Int)-1)=0 from rfl] at h
 exact h
end Go.Proofs.YtloojmaamaambaaGreatDoor

namespace Go.Proofs.YtloojmaamaambaaGreatDoor
open Go.RowKit
theorem den_times (x:Rat):x*((x.den:Int):Rat)=((x.num:Int):Rat):=by
 obtain ⟨i1,i2⟩:=int_parts (x.den:Int)
 obtain ⟨j1,j2⟩:=int_parts x.num
 have h:=cross_mul x ((x.den:Int):Rat)
 rw [i1,i2,Nat.mul_one] at h
 have hd:=den_pos x
 obtain ⟨e1,e2⟩:=rat_of_coprime x.num 1 (by omega) (by simp) (x*((x.den:Int):Rat)) (by
  refine Int.eq_of_mul_eq_mul_right (show (x.den:Int)≠0 by omega) ?_
  grind)
 exact Rat.ext (by rw [e1,j1]) (by rw [e2,j2])
theorem int_ne (z:Int) (h:z≠0):((z:Int):Rat)≠0:=fun e=>h (by
 have:=congrArg Rat.num e
 rwa [(int_parts z).1] at this)
def qf (q:Int × Int):Rat:=((q.1:Int):Rat)/(((if q.2=0 then 1 else q.2):Int):Rat)
theorem qf_of (f:Rat) (q:Int × Int) (h:f.num*(if q.2=0 then 1 else q.2)=q.1*f.den):f=qf q:=by
 unfold qf
 have hy:(if q.2=0 then (1:Int) else q.2)≠0:=by split <;> omega
 generalize (if q.2=0 then (1:Int) else q.2)=y at *
 have h1:=den_times f
 have h2:((f.num*y:Int):Rat)=((q.1*(f.den:Int):Int):Rat):=by rw [h]
 rw [Rat.intCast_mul,Rat.intCast_mul] at h2
 have hd:=int_ne (f.den:Int) (by have:=den_pos f;omega)
 have hy':=int_ne y hy
 generalize ((y:Int):Rat)=Y at *
 generalize ((f.den:Int):Rat)=D at *
 generalize ((f.num:Int):Rat)=M at *
 generalize ((q.1:Int):Rat)=X at *
 rw [← h1] at h2
 grind
def Fits (q:Int × Int):Prop:=-9223372036854775808≤q.1∧q.1<9223372036854775808∧-9223372036854775808≤q.2∧q.2<9223372036854775808
theorem plainF_at (q:Int × Int) (h:Fits q):∃ (r:Bool) (x y:Int),Len (qf q) 1∧(∀ W,FracAt W (.agg #[.bool r,.int .u64 x,.int .u64 y,.pointer none]) (qf q))∧∀ W,Calls Tryz.prog 10 #[.agg #[.int .i64 q.1,.int .i64 q.2]] W fun e w'=>e=.returned (.agg #[.bool r,.int .u64 x,.int .u64 y,.pointer none])∧But [] W w':=by
 obtain ⟨f,r,x,y,h1,h2,h3,h4⟩:=plainF_any q.1 q.2 h.1 h.2.1 h.2.2.1 h.2.2.2
 have e:=qf_of f q h2
 subst e
 exact ⟨r,x,y,h1,h3,h4⟩
def QsAt (w:World) (v:Value) (qs:List (Int × Int)):Prop:=∃ a cap,v=.slice a qs.length cap∧qs.length≤cap∧∀ i q,qs[i]? = some q→∃ b off,a=some ⟨b,off,none⟩∧w.cell? ⟨b,off+i*2,none⟩=some (.int .i64 q.1)∧w.cell? ⟨b,off+i*2+1,none⟩=some (.int .i64 q.2)
theorem QsAt.but {w w':World} {v:Value} {qs:List (Int × Int)} (h:QsAt w v qs) (hb:But [] w w'):QsAt w' v qs:=by
 obtain ⟨a,cap,e,hc,h⟩:=h
 refine ⟨a,cap,e,hc,fun i q hq=>?_⟩
 obtain ⟨b,off,e1,h1,h2⟩:=h i q hq
 exact ⟨b,off,e1,hb.cell_some h1 (by simp),hb.cell_some h2 (by simp)⟩
theorem append_frac (w:World) (base:Nat) (v:Value) (k:Nat) (vs:List Value) (hown:w.ownsRow base 29 4 v k (parts4 vs)) (g:Nat) (s:Bool) (x y:Int) (p:Option Addr) (c:P4 w g s x y p) (hk:k<1000000) (hb:base≤w.heap.size) :
  ∃ v' w',(Builtin.append_ #[33,33] 33 #[v,.slice (some ⟨g,0,none⟩) 1 1]).run Tryz.prog w=.ok v' w'∧w'.ownsRow base 29 4 v' (k+1) (parts4 (vs++[.agg #[.bool s,.int .u64 x,.int .u64 y,.pointer p]]))∧w.grownBy w' v.ownBlock:=by
 obtain ⟨i0,hi,hz0,hz1,hz2⟩:=info_frac
 obtain ⟨v',w',hr,ho,hg,-⟩:=run_append_own (P:=Tryz.prog) w base 33 33 29 i0 _ 4 32 Tryz.underlying33 hi hz0 hz1 hz2 rfl (by decide) v k (parts4 vs) hown ⟨g,0,none⟩ 1 1 [.bool s,.int .u64 x,.int .u64 y,.pointer p] rfl (fun j u hj=>by
   have:j=0∨j=1∨j=2∨j=3∨4≤j:=by omega
   obtain ⟨c0,c1,c2,c3⟩:=c
   rcases this with rfl | rfl | rfl | rfl | h4
   ·simp at hj;subst hj;exact c0
   ·simp at hj;subst hj;exact c1
   ·simp at hj;subst hj;exact c2
   ·simp at hj;subst hj;exact c3
   ·rw [List.getElem?_eq_none (by simpa using h4)] at hj;simp at hj) (fun u hu=>by
   simp only [List.mem_cons,List.not_mem_nil,or_false] at hu
   rcases hu with rfl | rfl | rfl | rfl <;> rfl) (by unfold maxLen;omega) (by omega) hb
 refine ⟨v',w',hr,?_,hg⟩
 rw [parts4_append]
 exact ho
end Go.Proofs.YtloojmaamaambaaGreatDoor

namespace Go.Proofs.YtloojmaamaambaaGreatDoor
open Go.RowKit
set_option maxHeartbeats 8000000
set_option maxRecDepth 100000
theorem ownsRow_form {w:World} {base:Nat} {e:TypeId} {size:Nat} {v:Value} {n:Nat} {xs:List Value} (h:w.ownsRow base e size v n xs):∃ a c,v=.slice a n c:=by
 rcases h.2 with ⟨rfl,h0⟩ | ⟨g,cap,cur,rfl,-⟩
 ·exact ⟨none,0,by rw [h0]⟩
 ·exact ⟨_,_,rfl⟩
theorem but_of_grown {w0 w w':World} {base:Nat} {e:TypeId} {size:Nat} {v:Value} {n:Nat} {xs:List Value} (h:But [] w0 w) (ho:w.ownsRow base e size v n xs) (hb:w0.heap.size≤base) (hg:w.grownBy w' v.ownBlock):But [] w0 w' :=
 ⟨hg.os.trans h.os,hg.tape.trans h.tape,hg.output.trans h.output,Nat.le_trans h.size hg.size,fun k hk _=>by
  rw [hg.block k (Nat.lt_of_lt_of_le hk h.size) (fun e=>by have:=(ho.lt k e.symm).1;omega)]
  exact h.block k hk (by simp)⟩
theorem ownsRow_but {w w':World} {base:Nat} {e:TypeId} {size:Nat} {v:Value} {n:Nat} {xs:List Value} (h:w.ownsRow base e size v n xs) (hb:But [] w w'):w'.ownsRow base e size v n xs :=
 h.kept (row:=none) ⟨hb.os,hb.tape,hb.output,hb.size,fun k hk _=>hb.block k hk (by simp)⟩ (by
  by_cases h0:v.ownBlock=none
  ·exact .inl h0
  ·exact .inr h0)
theorem plainFs_any (v:Value) (qs:List (Int × Int)) (w:World) (hq:QsAt w v qs) (hf:∀ q ∈ qs,Fits q) (hn:qs.length≤1000) :
  Calls Tryz.prog 57 #[v] w fun e w'=>∃ v' vs,e=.returned v'∧Holds4 w' w.heap.size 29 v' (qs.map qf) vs∧But [] w w':=by
 obtain ⟨a,cap,rfl,hcap,hc⟩:=hq
 obtain ⟨R,X,Y,hV⟩:∃ (R:Nat→Bool) (X Y:Nat→Int),∀ i,i<qs.length→(∀ W,FracAt W (.agg #[.bool (R i),.int .u64 (X i),.int .u64 (Y i),.pointer none]) (qf (qs[i]?.getD (0,0))))∧∀ W,Calls Tryz.prog 10 #[.agg #[.int .i64 (qs[i]?.getD (0,0)).1,.int .i64 (qs[i]?.getD (0,0)).2]] W fun e w'=>e=.returned (.agg #[.bool (R i),.int .u64 (X i),.int .u64 (Y i),.pointer none])∧But [] W w':=by
  have h:∀ i,∃ t:Bool × Int × Int,i<qs.length→(∀ W,FracAt W (.agg #[.bool t.1,.int .u64 t.2.1,.int .u64 t.2.2,.pointer none]) (qf (qs[i]?.getD (0,0))))∧∀ W,Calls Tryz.prog 10 #[.agg #[.int .i64 (qs[i]?.getD (0,0)).1,.int .i64 (qs[i]?.getD (0,0)).2]] W fun e w'=>e=.returned (.agg #[.bool t.1,.int .u64 t.2.1,.int .u64 t.2.2,.pointer none])∧But [] W w':=fun i=>by
   by_cases hi:i<qs.length
   ·rw [List.getElem?_eq_getElem hi]
    obtain ⟨r,x,y,-,h1,h2⟩:=plainF_at qs[i] (hf _ (List.getElem_mem hi))
    exact ⟨(r,x,y),fun _=>⟨h1,h2⟩⟩
   ·exact ⟨(false,0,0),fun h=>absurd h hi⟩
  obtain ⟨t,ht⟩:=Classical.axiomOfChoice h
  exact ⟨fun i=>(t i).1,fun i=>(t i).2.1,fun i=>(t i).2.2,ht⟩
 have hcell:∀ i,i<qs.length→∃ b off,a=some ⟨b,off,none⟩∧w.cell? ⟨b,off+i*2,none⟩=some (.int .i64 (qs[i]?.getD (0,0)).1)∧w.cell? ⟨b,off+i*2+1,none⟩=some (.int .i64 (qs[i]?.getD (0,0)).2):=fun i hi=>by
  rw [List.getElem?_eq_getElem hi]
  exact hc i _ (List.getElem?_eq_getElem hi)
 have hmap:∀ i,(qs.map qf)[i]? = (qs[i]?).map qf:=fun i=>List.getElem?_map ..
 have HM:=hide hmap
 have HC:=hide hcell
 have HV:=hide hV
 clear hmap hcell hV hc hf
 obtain ⟨n,hnn⟩:∃ n,n=qs.length:=⟨_,rfl⟩
 have HN:=hide hnn
 rw [← hnn] at hn hcap HC HV
 rw [← hnn]
 clear hnn
 go_enter Tryz.func57,Tryz.ntmps57
 go_wp2
 go_loopw [3,8] (fun o i wr=>∃ k:Nat,k≤n∧i=.int .i64 (k:Int)∧Hid (wr.ownsRow w.heap.size 29 4 o k (parts4 ((List.range k).map fun i=>.agg #[.bool (R i),.int .u64 (X i),.int .u64 (Y i),.pointer none]))∧But [] w wr)) (fun _ i _=>n-(intOf i).toNat)
 case atStart=>exact ⟨0,Nat.zero_le _,rfl,World.ownsRow_nil _ _ _ _,But.refl _ _⟩
 case round =>
  obtain ⟨k,hk,rfl,HI⟩:=hrel
  rename World=>wr
  by_cases hlt:k<n
  ·obtain ⟨b,off,rfl,c0,c1⟩:=unhide HC k hlt
   have c0':=(unhide HI).2.cell_some c0 (by simp)
   have c1':=(unhide HI).2.cell_some c1 (by simp)
   obtain ⟨hva,hvb⟩:=unhide HV k hlt
   have PF:=hide hvb
   clear hva hvb c0 c1
   generalize (qs[k]?.getD (0,0)).1=q1 at *
   generalize (qs[k]?.getD (0,0)).2=q2 at *
   have ba:=(But.refl [] wr).alloc (.cells #[.int .i64 q1,.int .i64 q2] 23)
   have BA:=hide ba
   clear ba
   go_wp2_with fail
   refine (unhide PF _).mono ?_
   rintro e w1 ⟨rfl,hb1⟩
   have B1:Hid (But [] wr w1):=(unhide BA).trans' hb1
   clear hb1
   obtain ⟨V,hV⟩:∃ V,V=w1.alloc (.cells #[.bool (R k),.int .u64 (X k),.int .u64 (Y k),.pointer none] 29):=⟨_,rfl⟩
   have cc:P4 V w1.heap.size (R k) (X k) (Y k) none:=by rw [hV];exact ⟨by simp,by simp,by simp,by simp⟩
   have bV:But [] wr V:=(unhide B1).trans' (by rw [hV];exact (But.refl _ _).alloc _)
   have oV:=ownsRow_but (unhide HI).1 bV
   obtain ⟨v',w',hr,ho,hg⟩:=append_frac V w.heap.size u3 k _ oV w1.heap.size _ _ _ _ cc (by omega) ((unhide HI).2.trans' bV).size
   have BF:Hid (But [] w w'):=but_of_grown ((unhide HI).2.trans' bV) oV (Nat.le_refl _) hg
   have HO:=hide ho
   rw [hV] at hr
   have HR:=hide hr
   clear hr ho hg oV bV cc hV
   go_wp2_with (at_builtin;refine wpList_app rfl _ _ 33 33 rfl _ _ v' w' rfl rfl (unhide HR) ?_)
   refine ⟨⟨k+1,by omega,by go_num,by rw [List.range_succ,List.map_append];exact unhide HO,unhide BF⟩,by simp [intOf];omega⟩
  ·obtain rfl:k=n:=by omega
   obtain ⟨a',c',rfl⟩:=ownsRow_form (unhide HI).1
   go_wp2
   go_ret
   have hlen:(qs.map qf).length=k:=by rw [List.length_map];exact (unhide HN).symm
   refine ⟨_,_,rfl,⟨by rw [hlen];exact (unhide HI).1,by simp [hlen],fun i f hi=>?_⟩,(unhide HI).2⟩
   have hik:i<k:=by rw [← hlen];exact (List.getElem?_eq_some_iff.1 hi).1
   refine ⟨_,_,_,_,by rw [List.getElem?_map,List.getElem?_range hik];rfl,?_⟩
   have h1:=(unhide HV i hik).1 wr
   rw [unhide HM i] at hi
   cases hq:qs[i]? with
   | none=>rw [hq] at hi;simp at hi
   | some q =>
    rw [hq] at hi h1
    simp only [Option.map_some,Option.some.injEq] at hi
    rw [← hi]
    exact h1
end Go.Proofs.YtloojmaamaambaaGreatDoor

namespace Go.Proofs.YtloojmaamaambaaGreatDoor
open Go.RowKit
set_option maxHeartbeats 16000000
set_option maxRecDepth 100000
def sumR (fs:List Rat):Rat:=fs.foldl (fun s f=>s+f) 0
theorem sumR_take (fs:List Rat) (k:Nat) (hk:k<fs.length):sumR (fs.take (k+1))=sumR (fs.take k)+fs[k]?.getD 0:=by
 unfold sumR
 rw [List.take_add_one,List.getElem?_eq_getElem hk,List.foldl_append]
 rfl
theorem len_zero (n:Nat) (h:1≤n):Len 0 n:=⟨Nat.le_trans (wd_length_le (by omega) _ 1 (by decide)) h,Nat.le_trans (wd_length_le (by omega) _ 1 (by decide)) h⟩
theorem len_sumR (c:Nat) (fs:List Rat) (h:∀ f ∈ fs,Len f c):∀ k,k≤fs.length→Len (sumR (fs.take k)) (k*(c+1)+1)
 | 0,_=>by
  rw [List.take_zero]
  exact len_zero _ (by omega)
 | k+1,hk=>by
  have ih:=len_sumR c fs h k (by omega)
  rw [sumR_take fs k (by omega),List.getElem?_eq_getElem (by omega)]
  exact len_add ih (h _ (List.getElem_mem (by omega))) _ (by rw [Nat.succ_mul];omega)
theorem cmp_same (x y:Rat) (r:Int) (hr:r=cmpZ (x.num*(y.den:Int)) (y.num*(x.den:Int))):(r != 0)=!decide (x=y):=by
 have h1:r=0↔x=y:=by
  have hle:x.num*(y.den:Int)=y.num*(x.den:Int)↔x=y:=by
   constructor
   ·intro h
    exact Rat.le_antisymm ((Rat.le_iff _ _).2 (by omega)) ((Rat.le_iff _ _).2 (by omega))
   ·intro h
    rw [h]
  rw [← hle,hr]
  unfold cmpZ
  constructor
  ·intro h
   split at h
   ·omega
   ·split at h
    ·assumption
    ·omega
  ·intro h
   rw [if_neg (by omega),if_pos h]
 by_cases h:x=y
 ·rw [h1.2 h,decide_eq_true h];rfl
 ·rw [decide_eq_false h]
  have h2:r≠0:=fun e=>h (h1.1 e)
  simpa using h2
def chkE (fs:List Rat):Int:=if fs.length<1∨201<fs.length then 4 else if fs.any (fun f=>decide (f.num<0)) then 1 else if sumR fs=1 then 0 else 10
def errV (q:Int):Value:=if q=0 then .nilIface else .iface 54 (.int .i64 q)
theorem lawCheck_any (v:Value) (fs:List Rat) (c:Nat) (w:World) (hv:FracsAt w v fs) (hn:fs.length≤1000) (lf:∀ f ∈ fs,Len f c) (hc:c≤100) :
  Calls Tryz.prog 60 #[v] w fun e w'=>e=.returned (errV (chkE fs))∧But [] w w':=by
 obtain ⟨q,cap,rfl,hcap,-⟩:=id hv
 obtain ⟨n,hN⟩:∃ n,n=fs.length:=⟨_,rfl⟩
 rw [← hN] at hn hcap ⊢
 rw [← hN] at hv
 have HV:=hide hv
 have HN:=hide hN
 clear hv hN
 obtain ⟨ce,hce⟩:∃ ce,ce=chkE fs:=⟨_,rfl⟩
 rw [← hce]
 have HCE:=hide hce
 clear hce
 go_enter Tryz.func60,Tryz.ntmps60
 by_cases h0:n<1
 ·obtain rfl:n=0:=by omega
  have e4:ce=4:=by rw [unhide HCE];unfold chkE;rw [if_pos (.inl (by have:=unhide HN;omega))]
  subst e4
  go_wp2
  go_ret
  exact ⟨rfl,But.refl _ _⟩
 ·by_cases h1:201<n
  ·have e4:ce=4:=by rw [unhide HCE];unfold chkE;rw [if_pos (.inr (by have:=unhide HN;omega))]
   subst e4
   go_wp2
   go_ret
   exact ⟨rfl,But.refl _ _⟩
  ·go_wp2
   have x3:=BoxAt.new w false 0 0 none 0 29 (zero_at _)
   have bV:But [] w (w.alloc (.cells #[.bool false,.int .u64 0,.int .u64 0,.pointer none] 29)):=(But.refl _ _).alloc _
   have X3:=hide x3
   have BV:=hide bV
   clear x3 bV
   have q3:w.heap.size≤w.heap.size:=Nat.le_refl _
   generalize hg3:w.heap.size=g3 at X3
   have Q3:Hid (w.heap.size≤g3):=by show _≤_;omega
   clear hg3 q3
   generalize w.alloc (.cells #[.bool false,.int .u64 0,.int .u64 0,.pointer none] 29)=V at *
   go_loopw [17] (fun iv wr=>∃ k:Nat,k≤n∧iv=.int .i64 (k:Int)∧Hid ((∀ f ∈ fs.take k,¬ f.num<0)∧BoxAt wr g3 (sumR (fs.take k))∧But [] w wr)) (fun iv _=>n-(intOf iv).toNat)
   case atStart=>exact ⟨0,Nat.zero_le _,rfl,fun f hf=>by simp at hf,unhide X3,unhide BV⟩
   case round =>
    obtain ⟨k,hk,rfl,HI⟩:=hrel
    rename World=>wr
    clear X3 BV
    by_cases hlt:k<n
    ·have hkl:k<fs.length:=by have:=unhide HN;omega
     have hfx:=(unhide HV).but (unhide HI).2.2
     rcases hfx.open with ⟨er,-⟩ | ⟨-,rb,roff,rcap2,er,-,-⟩
     ·rw [er] at hkl
      simp at hkl
     simp only [Value.slice.injEq] at er
     obtain ⟨rfl,-,rfl⟩:=er
     obtain ⟨sr,xr,yr,pr,⟨r0,r1,r2,r3⟩,hfr⟩:=hfx.get k hlt
     obtain ⟨f,hff⟩:∃ f,f=fs[k]?.getD 0:=⟨_,rfl⟩
     rw [← hff] at hfr
     have hmem:f ∈ fs:=by rw [hff,List.getElem?_eq_getElem hkl];exact List.getElem_mem hkl
     have bA:But [] wr (wr.alloc (.cells #[.bool sr,.int .u64 xr,.int .u64 yr,.pointer pr] 29)):=(But.refl _ _).alloc _
     have BA:=hide bA
     have x5:=BoxAt.new wr sr xr yr pr _ 29 hfr
     have X5:=hide x5
     have SG:=hide (fun W (h:But [] wr W)=>fracSign_any _ f W (hfr.but h))
     have HFR:=hide hfr
     have HFF:=hide hff
     clear hfx hfr bA x5 hff
     by_cases hneg:f.num<0
     ·have e1:ce=1:=by
       rw [unhide HCE];unfold chkE
       rw [if_neg (by have:=unhide HN;omega),if_pos (List.any_eq_true.2 ⟨f,hmem,decide_eq_true hneg⟩)]
      subst e1
      rw [Int.sign_eq_neg_one_of_neg hneg] at SG
      go_wp2_with fail
      refine (unhide SG _ (unhide BA)).mono ?_
      rintro e w1 ⟨rfl,hb1⟩
      have B1:Hid (But [] w w1):=((unhide HI).2.2.trans' (unhide BA)).trans' hb1
      clear hb1
      go_wp2
      go_ret
      exact ⟨rfl,unhide B1⟩
     ·have hsg:0≤f.num.sign:=by
       rcases Int.lt_trichotomy f.num 0 with h | h | h
       ·omega
       ·rw [h];decide
       ·rw [Int.sign_eq_one_of_pos h];decide
      obtain ⟨sg,hsgn⟩:∃ sg,sg=f.num.sign:=⟨_,rfl⟩
      rw [← hsgn] at SG hsg
      clear hsgn
      go_wp2_with fail
      refine (unhide SG _ (unhide BA)).mono ?_
      rintro e w1 ⟨rfl,hb1⟩
      have B01:=hide ((unhide BA).trans' hb1)
      have X51:=hide ((unhide X5).but hb1)
      have X31:=hide ((unhide HI).2.1.but (unhide B01))
      have B1:=hide ((unhide HI).2.2.trans' (unhide B01))
      have L5:g3<wr.heap.size:=(unhide HI).2.1.lt
      clear hb1 SG X5 r0 r1 r2 r3
      generalize wr.heap.size=g5 at *
      obtain ⟨⟨t3,a3,b3,q3,⟨c0,c1,c2,c3⟩,hf3⟩,z3⟩:=unhide X31
      obtain ⟨⟨t5,a5,b5,q5,⟨d0,d1,d2,d3⟩,hf5⟩,-⟩:=unhide X51
      have ls:=len_sumR c fs lf k (by omega)
      have hkc:k*(c+1)≤1000*101:=Nat.mul_le_mul (by omega) (by omega)
      have AD:=hide (in_parts (fracAdd_gen 200000 200000 (by omega) _ _ _ _ w1 hf3 hf5 (ls.mono (by omega)) ((lf f hmem).mono (by omega))))
      clear hf3 hf5 ls hkc X51
      go_wp2_with fail
      refine (unhide AD).mono ?_
      rintro e w2 ⟨s7,x7,y7,p7,rfl,hf7,hb7⟩
      have stp:=sumR_take fs k hkl
      rw [← unhide HFF] at stp
      rw [← stp] at hf7
      have l31:g3<w1.heap.size:=lt_of_cell c0
      have z3':∀ j,w2.frozen? ⟨g3,j,none⟩=false:=fun j=>(hb7.frozen (p:=⟨g3,j,none⟩) l31 (by simp)).trans (z3 j)
      replace c0:=hb7.cell_some c0 (by simp)
      replace c1:=hb7.cell_some c1 (by simp)
      replace c2:=hb7.cell_some c2 (by simp)
      replace c3:=hb7.cell_some c3 (by simp)
      have D3:=hide ((unhide X31).but hb7)
      have B2:=hide ((unhide B1).trans' hb7)
      have HF7:=hide hf7
      clear hf7 hb7 AD d0 d1 d2 d3 X31 B1 B01 z3 stp
      go_wp2
      have hP:=put4_but w2 g3 s7 x7 y7 p7
      refine ⟨⟨k+1,by omega,by go_num,fun f' hf'=>?_,(unhide D3).put (unhide HF7),(unhide B2).trans hP (fun x hx=>by simp at hx;subst hx;exact .inr (unhide Q3))⟩,by simp [intOf];omega⟩
      rw [List.take_add_one,List.getElem?_eq_getElem hkl] at hf'
      rcases List.mem_append.1 hf' with h1 | h1
      ·have h2:=(unhide HI).1 f' h1
       omega
      ·simp at h1
       rw [h1]
       have:=unhide HFF
       rw [List.getElem?_eq_getElem hkl,Option.getD_some] at this
       rw [← this]
       omega
    ·obtain rfl:k=n:=by omega
     have hall:fs.take k=fs:=by rw [unhide HN,List.take_length]
     obtain ⟨hpos,⟨⟨t3,a3,b3,q3,c3,hf3⟩,z3⟩,hbw⟩:=unhide HI
     rw [hall] at hpos hf3
     obtain ⟨ws,wx,FW,CW⟩:=whole_is 1 (by omega) (by omega)
     obtain ⟨r,hr⟩:∃ r,r=cmpZ ((sumR fs).num*((((1:Int):Rat)).den:Int)) ((((1:Int):Rat)).num*((sumR fs).den:Int)):=⟨_,rfl⟩
     have ls:=len_sumR c fs lf fs.length (Nat.le_refl _)
     rw [List.take_length] at ls
     have hkc:fs.length*(c+1)≤1000*101:=Nat.mul_le_mul (by have:=unhide HN;omega) (by omega)
     have CM:=hide (fun W (h:But [] wr W)=>fracCmp_any _ _ (sumR fs) ((1:Int):Rat) W (hf3.but h) (FW W) (ls.mono (by omega)) ((len_int 1 (by decide)).mono (by omega)) r hr)
     have hr0:(r != 0)=!decide (sumR fs=1):=cmp_same _ _ r hr
     have HR0:=hide hr0
     have HPOS:=hide hpos
     have HBW:=hide hbw
     have C3:=hide c3
     have CWH:=hide CW
     clear hall hpos hf3 z3 hbw hr ls hkc hr0 FW CW HI
     go_wp2
     refine check_region 11 _ _ wr t3 a3 b3 q3 ws wx r (by simp) g3 (by simp [Act.eval]) c3 (unhide CWH) (fun w' hb=>unhide CM w' hb) ?_
     intro w1 hb1
     have B1:=hide ((unhide HBW).trans' hb1)
     simp only [putted,List.foldl_cons,List.foldl_nil,Act.put,List.setIfInBounds_toArray,List.set_cons_zero,List.set_cons_succ]
     rw [unhide HR0]
     have nn:¬ (fs.length<1∨201<fs.length):=by have:=unhide HN;omega
     have nany:fs.any (fun f=>decide (f.num<0))=false:=by
      rw [List.any_eq_false]
      intro f hf
      simpa using unhide HPOS f hf
     by_cases hone:sumR fs=1
     ·have e1:ce=0:=by rw [unhide HCE];unfold chkE;rw [if_neg nn,nany];simp [hone]
      subst e1
      rw [decide_eq_true hone]
      clear c3 hb1
      go_wp2
      go_ret
      exact ⟨rfl,unhide B1⟩
     ·have e1:ce=10:=by rw [unhide HCE];unfold chkE;rw [if_neg nn,nany];simp [hone]
      subst e1
      rw [decide_eq_false hone]
      clear c3 hb1
      go_wp2
      go_ret
      exact ⟨rfl,unhide B1⟩
end Go.Proofs.YtloojmaamaambaaGreatDoor

namespace Go.Proofs.YtloojmaamaambaaGreatDoor
open Go.RowKit
set_option maxHeartbeats 8000000
set_option maxRecDepth 100000
theorem greatest_any (v:Value) (fs:List Rat) (m:Nat) (w:World) (hv:FracsAt w v fs) (hn:fs.length≤1000) (hm:m<fs.length) (h1:(fs[m]?.getD 0).num≠0) (h2:∀ j,m<j→j<fs.length→(fs[j]?.getD 0).num=0) :
  Calls Tryz.prog 52 #[v] w fun e w'=>e=.returned (.int .i64 (m:Int))∧But [] w w':=by
 rcases hv.open with ⟨rfl,-⟩ | ⟨-,b,off,cap,rfl,-,-⟩
 ·simp at hm
 obtain ⟨n,hN⟩:∃ n,n=fs.length:=⟨_,rfl⟩
 rw [← hN] at hn hm h2 ⊢
 rw [← hN] at hv
 have HV:=hide hv
 have H1:=hide h1
 have H2:=hide h2
 clear hv h1 h2 hN
 have hn1:((n:Int)-1)=((n-1:Nat):Int):=by omega
 go_enter Tryz.func52,Tryz.ntmps52
 go_wp2
 go_loopw [3] (fun iv wr=>∃ k:Nat,m≤k∧k<n∧iv=.int .i64 (k:Int)∧Hid (But [] w wr)) (fun iv _=>(intOf iv).toNat)
 case atStart=>exact ⟨n-1,by omega,by omega,by first | rfl | rw [hn1],But.refl _ _⟩
 case round =>
  obtain ⟨k,hmk,hkn,rfl,HI⟩:=hrel
  rename World=>wr
  obtain ⟨sr,xr,yr,pr,⟨r0,r1,r2,r3⟩,hfr⟩:=((unhide HV).but (unhide HI)).get k hkn
  have SG:=hide (fracSign_any _ _ wr hfr)
  clear hfr
  by_cases hk:k=m
  ·subst hk
   have hs:(fs[k]?.getD 0).num.sign≠0:=fun e=>unhide H1 (Int.sign_eq_zero_iff_zero.1 e)
   generalize (fs[k]?.getD 0).num.sign=sg at *
   go_wp2_with fail
   refine (unhide SG).mono ?_
   rintro e w1 ⟨rfl,hb1⟩
   have B1:=hide ((unhide HI).trans' hb1)
   clear hb1
   go_wp2
   go_ret
   exact ⟨rfl,unhide B1⟩
  ·rw [unhide H2 k (by omega) hkn,Int.sign_zero] at SG
   go_wp2_with fail
   refine (unhide SG).mono ?_
   rintro e w1 ⟨rfl,hb1⟩
   have B1:=hide ((unhide HI).trans' hb1)
   clear hb1
   have hk1:((k:Int)-1)=((k-1:Nat):Int):=by omega
   go_wp2
   exact ⟨⟨k-1,by omega,by omega,by first | rfl | rw [hk1],unhide B1⟩,by simp [intOf];omega⟩
end Go.Proofs.YtloojmaamaambaaGreatDoor

namespace Go.Proofs.YtloojmaamaambaaGreatDoor
open Go.RowKit
set_option maxHeartbeats 2000000
theorem pick_gen (a n:Int) (h1:-9223372036854775808≤a) (h2:a<9223372036854775808) (hn:0<n) (hn2:n<9223372036854775808) (w:World) :
  Calls Tryz.prog 9 #[.int .i64 a,.int .i64 n] w fun e w'=>e=.returned (.int .i64 ((((if a<0 then a + 18446744073709551616 else a)%n).toNat:Nat):Int))∧But [] w w':=by
 obtain ⟨u,hu⟩:∃ u:Int,u=if a<0 then a + 18446744073709551616 else a:=⟨_,rfl⟩
 have u1:0≤u∧u < 18446744073709551616:=by rw [hu];split <;> omega
 have e1:IntKind.u64.wrap a=u:=by rw [IntKind.wrap_u64,hu];split <;> omega
 rw [← hu]
 have e2:=Int.emod_nonneg u (show n≠0 by omega)
 have e3:=Int.emod_lt_of_pos u hn
 clear hu
 have e5:u.tmod n=u%n:=Int.tmod_eq_emod_of_nonneg u1.1
 obtain ⟨m,hm⟩:∃ m,m=u%n:=⟨_,rfl⟩
 rw [← hm] at e2 e3 e5 ⊢
 have e4:((m.toNat:Nat):Int)=m:=by omega
 rw [e4]
 have e6:IntKind.i64.wrap m=m:=by rw [IntKind.wrap_i64];omega
 have e7:IntKind.u64.wrap n=n:=by rw [IntKind.wrap_u64];omega
 have e8:IntKind.u64.wrap m=m:=by rw [IntKind.wrap_u64];omega
 have n0:(n==0)=false:=beq_eq_false_iff_ne.2 (by omega)
 have n1:n≠0:=by omega
 clear e4 hm
 go_enter Tryz.func9,Tryz.ntmps9
 go_wp2
 go_ret
 exact ⟨rfl,But.refl _ _⟩
end Go.Proofs.YtloojmaamaambaaGreatDoor
