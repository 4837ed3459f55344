/- A whole number as a fraction, as the Go  -/
import Derived.Laws.IdiomCopy
import Derived.Test.YtollloafckcogaaGreatDoorKFF7
namespace Go.Proofs.YtollloafckcogaaGreatDoor
open Go.RowKit
set_option maxHeartbeats 1000000
theorem whole_any (x:Int) (h1:-9223372036854775808≤x) (h2:x<9223372036854775808) (w:World) :
  Calls Tryz.prog 50 #[.int .i64 x] w fun e w'=>e=.returned (.agg #[.bool (decide (x<0)),.int .u64 ((x.natAbs:Nat):Int),.int .u64 (((1:Nat):Int)-1),.pointer none])∧But [] w w':=by
 obtain ⟨s,hs⟩:∃ s,s=decide (x<0):=⟨_,rfl⟩
 obtain ⟨n,hn⟩:∃ n,n=x.natAbs:=⟨_,rfl⟩
 rw [← hs,← hn]
 have HS:=hide hs
 have HN:=hide hn
 go_enter Tryz.func50,Tryz.ntmps50
 go_wp2_with fail
 refine (size_any x h1 h2 _).mono ?_
 rintro e w1 ⟨rfl,hw⟩
 obtain rfl:=hw.symm
 go_wp2
 exact bodyPost_ret (v:=.agg #[.bool (decide (x<0)),.int .u64 ((x.natAbs:Nat):Int),.int .u64 0,.pointer none]) (by simp [results,Tryz.results50,go_sem]) rfl ⟨by rw [unhide HS,unhide HN];rfl,(But.refl _ _).alloc _⟩
end Go.Proofs.YtollloafckcogaaGreatDoor

namespace Go.Proofs.YtollloafckcogaaGreatDoor
open Go.RowKit
set_option maxHeartbeats 4000000
set_option maxRecDepth 100000
def fracTxt (s:Bool) (p q:Nat):ByteArray:=(if s then ⟨#[45]⟩++⟨(Lib.decDigits p).toArray⟩ else ⟨(Lib.decDigits p).toArray⟩)++(if q=1 then ⟨#[]⟩ else ⟨#[47]⟩++⟨(Lib.decDigits q).toArray⟩)
theorem dec_short (u:Nat) (h:(wd 18446744073709551616 u).length≤1000000):(Lib.decDigits u).length≤20000000:=by
 rcases Nat.eq_zero_or_pos u with rfl | h0
 ·rw [Lib.decDigits_length,Lib.nDigits_small (by omega)];omega
 ·rw [← rdig_rev u h0,List.length_reverse];exact dig_len u 1000000 h
theorem ba_nil (t:ByteArray):t++⟨#[]⟩=t:=by
 cases t;simp [ByteArray.ext_iff]
theorem fracText_len (v:Value) (f:Rat) (w:World) (hf:FracAt w v f) (hL:Len f 1000000) (htab:Lib.TabIs Tryz.prog w "internal/strconv.uint64pow10" .u64 Lib.pow10Tab) (t:ByteArray) (ht:Hid (t=fracTxt (decide (f.num<0)) f.num.natAbs f.den)) :
  Calls Tryz.prog 9 #[v] w fun e w'=>e=.returned (.string t)∧But [] w w':=by
 have hq0:=den_pos f
 obtain ⟨hN,hD⟩:=hL
 obtain ⟨tp,htp⟩:∃ tp:ByteArray,tp=⟨(Lib.decDigits f.num.natAbs).toArray⟩:=⟨_,rfl⟩
 obtain ⟨tq,htq⟩:∃ tq:ByteArray,tq=⟨(Lib.decDigits f.den).toArray⟩:=⟨_,rfl⟩
 have sp:tp.size≤20000000:=by rw [htp];exact dec_short _ hN
 have sq:tq.size≤20000000:=by rw [htq];exact dec_short _ hD
 have HNU:Hid (∀ W,But [] w W→Calls Tryz.prog 36 #[v] W fun e w'=>∃ v1 v2,e=.returned (.tuple #[v1,v2])∧Sl .u64 w' v1 (wd 18446744073709551616 f.num.natAbs)∧Sl .u64 w' v2 (wd 18446744073709551616 f.den)∧But [] W w'):=fun W hb=>numbers_any v f W (hf.but hb)
 have T1:Hid (∀ W v1,But [] w W→Sl .u64 W v1 (wd 18446744073709551616 f.num.natAbs)→Calls Tryz.prog 37 #[v1] W fun e w'=>e=.returned (.string tp)∧But [] W w'):=fun W v1 hb h=>natText_all v1 _ W h hN (TabIs.but htab hb) tp htp
 have T2:Hid (∀ W v1,But [] w W→Sl .u64 W v1 (wd 18446744073709551616 f.den)→Calls Tryz.prog 37 #[v1] W fun e w'=>e=.returned (.string tq)∧But [] W w'):=fun W v1 hb h=>natText_all v1 _ W h hD (TabIs.but htab hb) tq htq
 have HT:Hid (t=(if decide (f.num<0) then ⟨#[45]⟩++tp else tp)++(if f.den=1 then ⟨#[]⟩ else ⟨#[47]⟩++tq)):=by show _=_;rw [unhide ht,fracTxt,htp,htq]
 have ONE:Hid (∀ W v1 (r:Bool),Hid (r=decide (f.den=1))→Sl .u64 W v1 (wd 18446744073709551616 f.den)→Calls Tryz.prog 38 #[v1] W fun e w'=>e=.returned (.bool r)∧w'=W):=fun W v1 r hr h=>natOne_any v1 _ W h (by omega) r hr
 obtain ⟨x,y,p,rfl,-⟩:=hf.agg
 have hbw:But [] w (w.alloc (.cells #[.bool (decide (f.num<0)),.int .u64 x,.int .u64 y,.pointer p] 27)):=(But.refl _ _).alloc _
 clear htp htq ht htab hN hD hf
 generalize hs:decide (f.num<0)=s at *
 clear hs
 go_enter Tryz.func9,Tryz.ntmps9
 go_wp2_with fail
 refine (unhide HNU _ hbw).mono ?_
 rintro e w1 ⟨v1,v2,rfl,hv1,hv2,hb1⟩
 have B1:=hide (hbw.trans' hb1)
 have HV1:=hide hv1
 have HV2:=hide hv2
 have c0:=hb1.cell_some (show (w.alloc (.cells #[.bool s,.int .u64 x,.int .u64 y,.pointer p] 27)).cell? ⟨w.heap.size,0,none⟩=some (.bool s) by simp) (by simp)
 clear hv1 hv2 hb1
 go_wp2_with fail
 refine (unhide T1 _ v1 (unhide B1) (unhide HV1)).mono ?_
 rintro e w2 ⟨rfl,hb2⟩
 have d0:=hb2.cell_some c0 (by simp)
 have B2:Hid (But [] w w2):=(unhide B1).trans' hb2
 have HV3:=hide ((unhide HV2).but_nil hb2)
 clear hb2 c0 HV2 hbw
 cases s
 all_goals
  go_wp2_with fail
  by_cases hq1:f.den=1
  ·refine (unhide ONE _ v2 true (by show true=_;simp [hq1]) (unhide HV3)).mono ?_
   rintro e w3 ⟨rfl,hw⟩
   obtain rfl:=hw.symm
   clear hw
   go_wp2
   go_ret
   exact ⟨by rw [unhide HT,if_pos hq1,ba_nil];rfl,unhide B2⟩
  ·refine (unhide ONE _ v2 false (by show false=_;simp [hq1]) (unhide HV3)).mono ?_
   rintro e w3 ⟨rfl,hw⟩
   obtain rfl:=hw.symm
   clear hw
   go_wp2_with fail
   refine (unhide T2 _ v2 (unhide B2) (unhide HV3)).mono ?_
   rintro e w3 ⟨rfl,hb3⟩
   go_wp2
   go_ret
   exact ⟨by rw [unhide HT,if_neg hq1];rfl,(unhide B2).trans' hb3⟩
end Go.Proofs.YtollloafckcogaaGreatDoor

namespace Go.Proofs.YtollloafckcogaaGreatDoor
open Go.RowKit
set_option maxHeartbeats 8000000
set_option maxRecDepth 100000
theorem rat_ex (s:Bool) (p q:Nat) (hq:0<q) (hc:Nat.Coprime p q):∃ f:Rat,f.num=sgn s p∧f.den=q :=
 ⟨⟨sgn s p,q,by omega,by rw [sgn_abs];exact hc⟩,rfl,rfl⟩
theorem gcd_cop (x y:Nat) (hy:0<y):Nat.Coprime (x/Nat.gcd x y) (y/Nat.gcd x y):=Nat.coprime_div_gcd_div_gcd (Nat.gcd_pos_of_pos_right _ hy)
theorem len_of {f:Rat} {m n:Nat} (h1:f.num.natAbs < 18446744073709551616^m) (h2:f.den < 18446744073709551616^n) (k:Nat) (hm:m≤k) (hn:n≤k):Len f k :=
 ⟨Nat.le_trans (wd_length_le (by omega) _ _ h1) hm,Nat.le_trans (wd_length_le (by omega) _ _ h2) hn⟩
theorem Len.mono {f:Rat} {m n:Nat} (h:Len f m) (hn:m≤n):Len f n:=⟨Nat.le_trans h.1 hn,Nat.le_trans h.2 hn⟩
theorem Len.lt {f:Rat} {m:Nat} (h:Len f m):f.num.natAbs < 18446744073709551616^m∧f.den < 18446744073709551616^m:=⟨lt_of_wd_length (by omega) _ _ h.1,lt_of_wd_length (by omega) _ _ h.2⟩
theorem len_mul {f g:Rat} {m n:Nat} (h1:Len f m) (h2:Len g n) (k:Nat) (hk:m+n≤k):Len (f*g) k:=by
 obtain ⟨a1,a2⟩:=h1.lt
 obtain ⟨c1,c2⟩:=h2.lt
 obtain ⟨e1,e2⟩:=mul_low f g _ _ rfl rfl
 refine len_of (m:=m+n) (n:=m+n) ?_ ?_ k hk hk
 ·rw [e1,sgn_abs,Nat.pow_add]
  exact Nat.mul_lt_mul'' (Nat.lt_of_le_of_lt (Nat.div_le_self _ _) a1) (Nat.lt_of_le_of_lt (Nat.div_le_self _ _) c1)
 ·rw [e2,Nat.pow_add]
  exact Nat.mul_lt_mul'' (Nat.lt_of_le_of_lt (Nat.div_le_self _ _) a2) (Nat.lt_of_le_of_lt (Nat.div_le_self _ _) c2)
theorem len_add {f g:Rat} {m n:Nat} (h1:Len f m) (h2:Len g n) (k:Nat) (hk:m+n+1≤k):Len (f+g) k:=by
 obtain ⟨a1,a2⟩:=h1.lt
 obtain ⟨c1,c2⟩:=h2.lt
 obtain ⟨M,s,hM⟩:∃ (M:Nat) (s:Bool),f.num*(g.den/Nat.gcd f.den g.den:Nat)+g.num*(f.den/Nat.gcd f.den g.den:Nat)=sgn s M:=by
  generalize f.num*(g.den/Nat.gcd f.den g.den:Nat)+g.num*(f.den/Nat.gcd f.den g.den:Nat)=z
  by_cases hz:z<0
  ·exact ⟨z.natAbs,true,by simp [sgn];omega⟩
  ·exact ⟨z.natAbs,false,by simp [sgn];omega⟩
 obtain ⟨e1,e2⟩:=add_low f g s M _ _ rfl rfl hM
 have hMl:M < 18446744073709551616^(m+n+1):=by
  have h3:M≤f.num.natAbs*(g.den/Nat.gcd f.den g.den)+g.num.natAbs*(f.den/Nat.gcd f.den g.den):=by
   rw [← sgn_abs s M,← hM]
   refine Nat.le_trans (Int.natAbs_add_le _ _) ?_
   rw [Int.natAbs_mul,Int.natAbs_mul,Int.natAbs_natCast,Int.natAbs_natCast]
   exact Nat.le_refl _
  have h4:f.num.natAbs*(g.den/Nat.gcd f.den g.den) < 18446744073709551616^m * 18446744073709551616^n:=Nat.mul_lt_mul'' a1 (Nat.lt_of_le_of_lt (Nat.div_le_self _ _) c2)
  have h5:g.num.natAbs*(f.den/Nat.gcd f.den g.den) < 18446744073709551616^n * 18446744073709551616^m:=Nat.mul_lt_mul'' c1 (Nat.lt_of_le_of_lt (Nat.div_le_self _ _) a2)
  rw [Nat.mul_comm (18446744073709551616^n)] at h5
  rw [Nat.pow_succ,Nat.pow_add]
  generalize 18446744073709551616^m * 18446744073709551616^n=P at *
  omega
 refine len_of (m:=m+n+1) (n:=m+n) ?_ ?_ k hk (by omega)
 ·rw [e1,sgn_abs];exact Nat.lt_of_le_of_lt (Nat.div_le_self _ _) hMl
 ·rw [e2,Nat.pow_add]
  exact Nat.mul_lt_mul'' (Nat.lt_of_le_of_lt (Nat.div_le_self _ _) a2) (Nat.lt_of_le_of_lt (Nat.div_le_self _ _) c2)
theorem len_neg {f:Rat} {m:Nat} (h:Len f m):Len (-f) m:=by
 unfold Len
 rw [Rat.neg_num,Rat.neg_den,Int.natAbs_neg]
 exact h
theorem len_sub {f g:Rat} {m n:Nat} (h1:Len f m) (h2:Len g n) (k:Nat) (hk:m+n+1≤k):Len (f-g) k:=by
 rw [Rat.sub_eq_add_neg];exact len_add h1 (len_neg h2) k hk
theorem len_inv {f:Rat} {m:Nat} (h:Len f m) (h0:f.num≠0):Len f⁻¹ m:=by
 obtain ⟨i1,i2,-⟩:=inv_facts f h0
 unfold Len
 rw [i1,i2]
 exact ⟨h.2,h.1⟩
theorem len_div {f g:Rat} {m n:Nat} (h1:Len f m) (h2:Len g n) (h0:g.num≠0) (k:Nat) (hk:m+n≤k):Len (f/g) k:=by
 rw [Rat.div_def];exact len_mul h1 (len_inv h2 h0) k hk
theorem of_rel (x y:Int) (p q k:Nat) (hx:x.natAbs=p*k) (hy:y.natAbs=q*k):sgn (decide (x<0) != decide (y<0)) p*y=x*q:=by
 have ex:x=sgn (decide (x<0)) (p*k):=by
  by_cases h:x<0
  ·simp [sgn,h];omega
  ·simp [sgn,h];omega
 have ey:y=sgn (decide (y<0)) (q*k):=by
  by_cases h:y<0
  ·simp [sgn,h];omega
  ·simp [sgn,h];omega
 generalize decide (x<0)=a at *
 generalize decide (y<0)=b at *
 rw [ex,ey]
 cases a <;> cases b <;> simp [sgn,Int.natCast_mul] <;> grind
theorem fracOf_at (x y:Int) (hx1:-9223372036854775808≤x) (hx2:x<9223372036854775808) (hy1:-9223372036854775808≤y) (hy2:y<9223372036854775808) (hy0:y≠0) :
  ∃ (f:Rat) (r:Bool) (p q:Int),Len f 1∧f.num*y=x*f.den∧(∀ W,FracAt W (.agg #[.bool r,.int .u64 p,.int .u64 q,.pointer none]) f)∧∀ W,Calls Tryz.prog 34 #[.int .i64 x,.int .i64 y] W fun e w'=>e=.returned (.tuple #[.agg #[.bool r,.int .u64 p,.int .u64 q,.pointer none],.nilIface])∧But [] W w':=by
 have hyp:0<y.natAbs:=by omega
 have hg:0<Nat.gcd x.natAbs y.natAbs:=Nat.gcd_pos_of_pos_right _ hyp
 have hd1:=Nat.div_mul_cancel (Nat.gcd_dvd_left x.natAbs y.natAbs)
 have hd2:=Nat.div_mul_cancel (Nat.gcd_dvd_right x.natAbs y.natAbs)
 have hq0:0<y.natAbs/Nat.gcd x.natAbs y.natAbs:=Nat.div_pos (Nat.le_of_dvd hyp (Nat.gcd_dvd_right _ _)) hg
 have hpB:x.natAbs/Nat.gcd x.natAbs y.natAbs < 18446744073709551616:=Nat.lt_of_le_of_lt (Nat.div_le_self _ _) (by omega)
 have hqB:y.natAbs/Nat.gcd x.natAbs y.natAbs < 18446744073709551616:=Nat.lt_of_le_of_lt (Nat.div_le_self _ _) (by omega)
 obtain ⟨f,hn,hd⟩:=rat_ex (decide (x<0) != decide (y<0)) _ _ hq0 (gcd_cop x.natAbs y.natAbs hyp)
 have habs:f.num.natAbs=x.natAbs/Nat.gcd x.natAbs y.natAbs:=by rw [hn,sgn_abs]
 refine ⟨f,decide (f.num<0),(f.num.natAbs:Int),(f.den:Int)-1,?_,?_,fun W=>.inl ⟨by rw [habs];exact hpB,by rw [hd];exact hqB,rfl⟩,fun W=>?_⟩
 ·exact len_of (m:=1) (n:=1) (by rw [habs,Nat.pow_one];exact hpB) (by rw [hd,Nat.pow_one];exact hqB) 1 (Nat.le_refl _) (Nat.le_refl _)
 ·rw [hn,hd]
  exact of_rel x y _ _ _ hd1.symm hd2.symm
 ·rw [habs,hd]
  exact fracOf_any x y hx1 hx2 hy1 hy2 hy0 W _ _ _ (by show _=_;rw [hn,sgn_neg]) rfl rfl
theorem plainF_any (x y:Int) (hx1:-9223372036854775808≤x) (hx2:x<9223372036854775808) (hy1:-9223372036854775808≤y) (hy2:y<9223372036854775808) :
  ∃ (f:Rat) (r:Bool) (p q:Int),Len f 1∧f.num*(if y=0 then 1 else y)=x*f.den∧(∀ W,FracAt W (.agg #[.bool r,.int .u64 p,.int .u64 q,.pointer none]) f)∧∀ W,Calls Tryz.prog 7 #[.agg #[.int .i64 x,.int .i64 y]] W fun e w'=>e=.returned (.agg #[.bool r,.int .u64 p,.int .u64 q,.pointer none])∧But [] W w':=by
 by_cases hy0:y=0
 ·subst hy0
  obtain ⟨f,r,p,q,h1,h2,h3,h4⟩:=fracOf_at x 1 hx1 hx2 (by omega) (by omega) (by omega)
  refine ⟨f,r,p,q,h1,by rw [if_pos rfl];exact h2,h3,fun w=>?_⟩
  have OF:=hide h4
  clear h1 h2 h3 h4
  go_enter Tryz.func7,Tryz.ntmps7
  go_wp2_with fail
  obtain ⟨W,hW⟩:∃ W,W=(w.alloc (.cells #[.int .i64 x,.int .i64 1] 23)).alloc (.cells #[.bool false,.int .u64 0,.int .u64 0,.pointer none] 27):=⟨_,rfl⟩
  have r0:W.cell? ⟨w.heap.size+1,0,none⟩=some (.bool false):=by rw [hW];simp
  have r1:W.cell? ⟨w.heap.size+1,1,none⟩=some (.int .u64 0):=by rw [hW];simp
  have r2:W.cell? ⟨w.heap.size+1,2,none⟩=some (.int .u64 0):=by rw [hW];simp
  have r3:W.cell? ⟨w.heap.size+1,3,none⟩=some (.pointer none):=by rw [hW];simp
  have fz:∀ j,W.frozen? ⟨w.heap.size+1,j,none⟩=false:=fun j=>by rw [hW];simp
  have hB:But [] w W:=by rw [hW];exact ((But.refl _ _).alloc _).alloc _
  rw [← hW]
  clear hW
  obtain ⟨gr,hgr⟩:∃ gr,gr=w.heap.size+1:=⟨_,rfl⟩
  rw [← hgr] at r0 r1 r2 r3 fz
  rw [← hgr]
  have HGR:Hid (w.heap.size≤gr):=by show _≤_;omega
  clear hgr
  have grl:gr<W.heap.size:=lt_of_cell r0
  refine (unhide OF _).mono ?_
  rintro e w1 ⟨rfl,hb1⟩
  have u0:=hb1.cell_some r0 (by simp)
  have u1:=hb1.cell_some r1 (by simp)
  have u2:=hb1.cell_some r2 (by simp)
  have u3:=hb1.cell_some r3 (by simp)
  have uf:∀ j,w1.frozen? ⟨gr,j,none⟩=false:=fun j=>(hb1.frozen (p:=⟨gr,j,none⟩) grl (by simp)).trans (fz j)
  have HB1:Hid (But [] w w1):=hB.trans' hb1
  have gl1:gr<w1.heap.size:=lt_of_cell u0
  clear hb1 hB r0 r1 r2 r3 fz grl
  go_wp2
  have hBf:=(((((unhide HB1).setCell (p:=⟨gr,0,none⟩) (.inr (unhide HGR)) (.bool r)).setCell (p:=⟨gr,1,none⟩) (.inr (unhide HGR)) (.int .u64 p)).setCell (p:=⟨gr,2,none⟩) (.inr (unhide HGR)) (.int .u64 q)).setCell (p:=⟨gr,3,none⟩) (.inr (unhide HGR)) (.pointer none)).alloc (.cells #[.bool r,.int .u64 p,.int .u64 q,.pointer none] 27)
  exact bodyPost_ret (v:=.agg #[.bool r,.int .u64 p,.int .u64 q,.pointer none]) (by simp [results,Tryz.results7,go_sem,u0,u1,u2,u3,gl1]) rfl ⟨rfl,hBf⟩
 ·obtain ⟨f,r,p,q,h1,h2,h3,h4⟩:=fracOf_at x y hx1 hx2 hy1 hy2 hy0
  refine ⟨f,r,p,q,h1,by rw [if_neg hy0];exact h2,h3,fun w=>?_⟩
  have n0:(y==0)=false:=by simp [hy0]
  have OF:=hide h4
  clear h1 h2 h3 h4
  go_enter Tryz.func7,Tryz.ntmps7
  go_wp2_with fail
  obtain ⟨W,hW⟩:∃ W,W=(w.alloc (.cells #[.int .i64 x,.int .i64 y] 23)).alloc (.cells #[.bool false,.int .u64 0,.int .u64 0,.pointer none] 27):=⟨_,rfl⟩
  have r0:W.cell? ⟨w.heap.size+1,0,none⟩=some (.bool false):=by rw [hW];simp
  have r1:W.cell? ⟨w.heap.size+1,1,none⟩=some (.int .u64 0):=by rw [hW];simp
  have r2:W.cell? ⟨w.heap.size+1,2,none⟩=some (.int .u64 0):=by rw [hW];simp
  have r3:W.cell? ⟨w.heap.size+1,3,none⟩=some (.pointer none):=by rw [hW];simp
  have fz:∀ j,W.frozen? ⟨w.heap.size+1,j,none⟩=false:=fun j=>by rw [hW];simp
  have hB:But [] w W:=by rw [hW];exact ((But.refl _ _).alloc _).alloc _
  rw [← hW]
  clear hW
  obtain ⟨gr,hgr⟩:∃ gr,gr=w.heap.size+1:=⟨_,rfl⟩
  rw [← hgr] at r0 r1 r2 r3 fz
  rw [← hgr]
  have HGR:Hid (w.heap.size≤gr):=by show _≤_;omega
  clear hgr
  have grl:gr<W.heap.size:=lt_of_cell r0
  refine (unhide OF _).mono ?_
  rintro e w1 ⟨rfl,hb1⟩
  have u0:=hb1.cell_some r0 (by simp)
  have u1:=hb1.cell_some r1 (by simp)
  have u2:=hb1.cell_some r2 (by simp)
  have u3:=hb1.cell_some r3 (by simp)
  have uf:∀ j,w1.frozen? ⟨gr,j,none⟩=false:=fun j=>(hb1.frozen (p:=⟨gr,j,none⟩) grl (by simp)).trans (fz j)
  have HB1:Hid (But [] w w1):=hB.trans' hb1
  have gl1:gr<w1.heap.size:=lt_of_cell u0
  clear hb1 hB r0 r1 r2 r3 fz grl
  go_wp2
  have hBf:=(((((unhide HB1).setCell (p:=⟨gr,0,none⟩) (.inr (unhide HGR)) (.bool r)).setCell (p:=⟨gr,1,none⟩) (.inr (unhide HGR)) (.int .u64 p)).setCell (p:=⟨gr,2,none⟩) (.inr (unhide HGR)) (.int .u64 q)).setCell (p:=⟨gr,3,none⟩) (.inr (unhide HGR)) (.pointer none)).alloc (.cells #[.bool r,.int .u64 p,.int .u64 q,.pointer none] 27)
  exact bodyPost_ret (v:=.agg #[.bool r,.int .u64 p,.int .u64 q,.pointer none]) (by simp [results,Tryz.results7,go_sem,u0,u1,u2,u3,gl1]) rfl ⟨rfl,hBf⟩
end Go.Proofs.YtollloafckcogaaGreatDoor

namespace Go.Proofs.YtollloafckcogaaGreatDoor
open Go.RowKit
theorem int_parts (n:Int):((n:Int):Rat).num=n∧((n:Int):Rat).den=1:=⟨by simp,by simp⟩
theorem len_int (n:Int) (h:n.natAbs < 18446744073709551616):Len ((n:Int):Rat) 1:=by
 obtain ⟨h1,h2⟩:=int_parts n
 exact len_of (m:=1) (n:=1) (by rw [h1,Nat.pow_one];exact h) (by rw [h2];decide) 1 (Nat.le_refl _) (Nat.le_refl _)
theorem whole_is (x:Int) (h1:-9223372036854775808≤x) (h2:x<9223372036854775808) :
  ∃ (r:Bool) (p:Int),(∀ W,FracAt W (.agg #[.bool r,.int .u64 p,.int .u64 0,.pointer none]) ((x:Int):Rat))∧∀ W,Calls Tryz.prog 50 #[.int .i64 x] W fun e w'=>e=.returned (.agg #[.bool r,.int .u64 p,.int .u64 0,.pointer none])∧But [] W w':=by
 obtain ⟨e1,e2⟩:=int_parts x
 refine ⟨decide (x<0),((x.natAbs:Nat):Int),fun W=>.inl ⟨by rw [e1];omega,by rw [e2];decide,by rw [e1,e2];rfl⟩,fun W=>?_⟩
 have h:=whole_any x h1 h2 W
 rw [show (((1:Nat):Int)-1)=0 from rfl] at h
 exact h
end Go.Proofs.YtollloafckcogaaGreatDoor

namespace Go.Proofs.YtollloafckcogaaGreatDoor
open Go.RowKit
theorem den_times (x:Rat):x*((x.den:Int):Rat)=((x.num:Int):Rat):=by
 obtain ⟨i1,i2⟩:=int_parts (x.den:Int)
 obtain ⟨j1,j2⟩:=int_parts x.num
 have h:=cross_mul x ((x.den:Int):Rat)
 rw [i1,i2,Nat.mul_one] at h
 have hd:=den_pos x
 obtain ⟨e1,e2⟩:=rat_of_coprime x.num 1 (by omega) (by simp) (x*((x.den:Int):Rat)) (by
  refine Int.eq_of_mul_eq_mul_right (show (x.den:Int)≠0 by omega) ?_
  grind)
 exact Rat.ext (by rw [e1,j1]) (by rw [e2,j2])
theorem int_ne (z:Int) (h:z≠0):((z:Int):Rat)≠0:=fun e=>h (by
 have:=congrArg Rat.num e
 rwa [(int_parts z).1] at this)
def qf (q:Int × Int):Rat:=((q.1:Int):Rat)/(((if q.2=0 then 1 else q.2):Int):Rat)
theorem qf_of (f:Rat) (q:Int × Int) (h:f.num*(if q.2=0 then 1 else q.2)=q.1*f.den):f=qf q:=by
 unfold qf
 have hy:(if q.2=0 then (1:Int) else q.2)≠0:=by split <;> omega
 generalize (if q.2=0 then (1:Int) else q.2)=y at *
 have h1:=den_times f
 have h2:((f.num*y:Int):Rat)=((q.1*(f.den:Int):Int):Rat):=by rw [h]
 rw [Rat.intCast_mul,Rat.intCast_mul] at h2
 have hd:=int_ne (f.den:Int) (by have:=den_pos f;omega)
 have hy':=int_ne y hy
 generalize ((y:Int):Rat)=Y at *
 generalize ((f.den:Int):Rat)=D at *
 generalize ((f.num:Int):Rat)=M at *
 generalize ((q.1:Int):Rat)=X at *
 rw [← h1] at h2
 grind
def Fits (q:Int × Int):Prop:=-9223372036854775808≤q.1∧q.1<9223372036854775808∧-9223372036854775808≤q.2∧q.2<9223372036854775808
theorem plainF_at (q:Int × Int) (h:Fits q):∃ (r:Bool) (x y:Int),Len (qf q) 1∧(∀ W,FracAt W (.agg #[.bool r,.int .u64 x,.int .u64 y,.pointer none]) (qf q))∧∀ W,Calls Tryz.prog 7 #[.agg #[.int .i64 q.1,.int .i64 q.2]] W fun e w'=>e=.returned (.agg #[.bool r,.int .u64 x,.int .u64 y,.pointer none])∧But [] W w':=by
 obtain ⟨f,r,x,y,h1,h2,h3,h4⟩:=plainF_any q.1 q.2 h.1 h.2.1 h.2.2.1 h.2.2.2
 have e:=qf_of f q h2
 subst e
 exact ⟨r,x,y,h1,h3,h4⟩
def QsAt (w:World) (v:Value) (qs:List (Int × Int)):Prop:=∃ a cap,v=.slice a qs.length cap∧qs.length≤cap∧∀ i q,qs[i]? = some q→∃ b off,a=some ⟨b,off,none⟩∧w.cell? ⟨b,off+i*2,none⟩=some (.int .i64 q.1)∧w.cell? ⟨b,off+i*2+1,none⟩=some (.int .i64 q.2)
theorem QsAt.but {w w':World} {v:Value} {qs:List (Int × Int)} (h:QsAt w v qs) (hb:But [] w w'):QsAt w' v qs:=by
 obtain ⟨a,cap,e,hc,h⟩:=h
 refine ⟨a,cap,e,hc,fun i q hq=>?_⟩
 obtain ⟨b,off,e1,h1,h2⟩:=h i q hq
 exact ⟨b,off,e1,hb.cell_some h1 (by simp),hb.cell_some h2 (by simp)⟩
theorem append_frac (w:World) (base:Nat) (v:Value) (k:Nat) (vs:List Value) (hown:w.ownsRow base 27 4 v k (parts4 vs)) (g:Nat) (s:Bool) (x y:Int) (p:Option Addr) (c:P4 w g s x y p) (hk:k<1000000) (hb:base≤w.heap.size) :
  ∃ v' w',(Builtin.append_ #[42,42] 42 #[v,.slice (some ⟨g,0,none⟩) 1 1]).run Tryz.prog w=.ok v' w'∧w'.ownsRow base 27 4 v' (k+1) (parts4 (vs++[.agg #[.bool s,.int .u64 x,.int .u64 y,.pointer p]]))∧w.grownBy w' v.ownBlock:=by
 obtain ⟨i0,hi,hz0,hz1,hz2⟩:=info_frac
 obtain ⟨v',w',hr,ho,hg,-⟩:=run_append_own (P:=Tryz.prog) w base 42 42 27 i0 _ 4 32 Tryz.underlying42 hi hz0 hz1 hz2 rfl (by decide) v k (parts4 vs) hown ⟨g,0,none⟩ 1 1 [.bool s,.int .u64 x,.int .u64 y,.pointer p] rfl (fun j u hj=>by
   have:j=0∨j=1∨j=2∨j=3∨4≤j:=by omega
   obtain ⟨c0,c1,c2,c3⟩:=c
   rcases this with rfl | rfl | rfl | rfl | h4
   ·simp at hj;subst hj;exact c0
   ·simp at hj;subst hj;exact c1
   ·simp at hj;subst hj;exact c2
   ·simp at hj;subst hj;exact c3
   ·rw [List.getElem?_eq_none (by simpa using h4)] at hj;simp at hj) (fun u hu=>by
   simp only [List.mem_cons,List.not_mem_nil,or_false] at hu
   rcases hu with rfl | rfl | rfl | rfl <;> rfl) (by unfold maxLen;omega) (by omega) hb
 refine ⟨v',w',hr,?_,hg⟩
 rw [parts4_append]
 exact ho
end Go.Proofs.YtollloafckcogaaGreatDoor

namespace Go.Proofs.YtollloafckcogaaGreatDoor
open Go.RowKit
set_option linter.unusedVariables false
theorem ownsRow_form {w:World} {base:Nat} {e:TypeId} {size:Nat} {v:Value} {n:Nat} {xs:List Value} (h:w.ownsRow base e size v n xs):∃ a c,v=.slice a n c:=by
 rcases h.2 with ⟨rfl,h0⟩ | ⟨g,cap,cur,rfl,-⟩
 ·exact ⟨none,0,by rw [h0]⟩
 ·exact ⟨_,_,rfl⟩
theorem but_of_grown {w0 w w':World} {base:Nat} {e:TypeId} {size:Nat} {v:Value} {n:Nat} {xs:List Value} (h:But [] w0 w) (ho:w.ownsRow base e size v n xs) (hb:w0.heap.size≤base) (hg:w.grownBy w' v.ownBlock):But [] w0 w' :=
 ⟨hg.os.trans h.os,hg.tape.trans h.tape,hg.output.trans h.output,Nat.le_trans h.size hg.size,fun k hk _=>by
  rw [hg.block k (Nat.lt_of_lt_of_le hk h.size) (fun e=>by have:=(ho.lt k e.symm).1;omega)]
  exact h.block k hk (by simp)⟩
theorem ownsRow_but {w w':World} {base:Nat} {e:TypeId} {size:Nat} {v:Value} {n:Nat} {xs:List Value} (h:w.ownsRow base e size v n xs) (hb:But [] w w'):w'.ownsRow base e size v n xs :=
 h.kept (row:=none) ⟨hb.os,hb.tape,hb.output,hb.size,fun k hk _=>hb.block k hk (by simp)⟩ (by
  by_cases h0:v.ownBlock=none
  ·exact .inl h0
  ·exact .inr h0)
end Go.Proofs.YtollloafckcogaaGreatDoor

namespace Go.Proofs.YtollloafckcogaaGreatDoor
open Go.RowKit
set_option maxHeartbeats 8000000
set_option maxRecDepth 100000
theorem plainFs_any (v:Value) (qs:List (Int × Int)) (w:World) (hq:QsAt w v qs) (hf:∀ q ∈ qs,Fits q) (hn:qs.length≤1000) :
  Calls Tryz.prog 14 #[v] w fun e w'=>∃ v' vs,e=.returned v'∧Holds4 w' w.heap.size 27 v' (qs.map qf) vs∧But [] w w':=by
 obtain ⟨a,cap,rfl,hcap,hc⟩:=hq
 obtain ⟨R,X,Y,hV⟩:∃ (R:Nat→Bool) (X Y:Nat→Int),∀ i,i<qs.length→(∀ W,FracAt W (.agg #[.bool (R i),.int .u64 (X i),.int .u64 (Y i),.pointer none]) (qf (qs[i]?.getD (0,0))))∧∀ W,Calls Tryz.prog 7 #[.agg #[.int .i64 (qs[i]?.getD (0,0)).1,.int .i64 (qs[i]?.getD (0,0)).2]] W fun e w'=>e=.returned (.agg #[.bool (R i),.int .u64 (X i),.int .u64 (Y i),.pointer none])∧But [] W w':=by
  have h:∀ i,∃ t:Bool × Int × Int,i<qs.length→(∀ W,FracAt W (.agg #[.bool t.1,.int .u64 t.2.1,.int .u64 t.2.2,.pointer none]) (qf (qs[i]?.getD (0,0))))∧∀ W,Calls Tryz.prog 7 #[.agg #[.int .i64 (qs[i]?.getD (0,0)).1,.int .i64 (qs[i]?.getD (0,0)).2]] W fun e w'=>e=.returned (.agg #[.bool t.1,.int .u64 t.2.1,.int .u64 t.2.2,.pointer none])∧But [] W w':=fun i=>by
   by_cases hi:i<qs.length
   ·rw [List.getElem?_eq_getElem hi]
    obtain ⟨r,x,y,-,h1,h2⟩:=plainF_at qs[i] (hf _ (List.getElem_mem hi))
    exact ⟨(r,x,y),fun _=>⟨h1,h2⟩⟩
   ·exact ⟨(false,0,0),fun h=>absurd h hi⟩
  obtain ⟨t,ht⟩:=Classical.axiomOfChoice h
  exact ⟨fun i=>(t i).1,fun i=>(t i).2.1,fun i=>(t i).2.2,ht⟩
 have hcell:∀ i,i<qs.length→∃ b off,a=some ⟨b,off,none⟩∧w.cell? ⟨b,off+i*2,none⟩=some (.int .i64 (qs[i]?.getD (0,0)).1)∧w.cell? ⟨b,off+i*2+1,none⟩=some (.int .i64 (qs[i]?.getD (0,0)).2):=fun i hi=>by
  rw [List.getElem?_eq_getElem hi]
  exact hc i _ (List.getElem?_eq_getElem hi)
 have hmap:∀ i,(qs.map qf)[i]? = (qs[i]?).map qf:=fun i=>List.getElem?_map ..
 have HM:=hide hmap
 have HC:=hide hcell
 have HV:=hide hV
 clear hmap hcell hV hc hf
 obtain ⟨n,hnn⟩:∃ n,n=qs.length:=⟨_,rfl⟩
 have HN:=hide hnn
 rw [← hnn] at hn hcap HC HV
 rw [← hnn]
 clear hnn
 go_enter Tryz.func14,Tryz.ntmps14
 go_wp2
 go_loopw [3,8] (fun o i wr=>∃ k:Nat,k≤n∧i=.int .i64 (k:Int)∧Hid (wr.ownsRow w.heap.size 27 4 o k (parts4 ((List.range k).map fun i=>.agg #[.bool (R i),.int .u64 (X i),.int .u64 (Y i),.pointer none]))∧But [] w wr)) (fun _ i _=>n-(intOf i).toNat)
 case atStart=>exact ⟨0,Nat.zero_le _,rfl,World.ownsRow_nil _ _ _ _,But.refl _ _⟩
 case round =>
  obtain ⟨k,hk,rfl,HI⟩:=hrel
  rename World=>wr
  by_cases hlt:k<n
  ·obtain ⟨b,off,rfl,c0,c1⟩:=unhide HC k hlt
   have c0':=(unhide HI).2.cell_some c0 (by simp)
   have c1':=(unhide HI).2.cell_some c1 (by simp)
   obtain ⟨hva,hvb⟩:=unhide HV k hlt
   have PF:=hide hvb
   clear hva hvb c0 c1
   generalize (qs[k]?.getD (0,0)).1=q1 at *
   generalize (qs[k]?.getD (0,0)).2=q2 at *
   have ba:=(But.refl [] wr).alloc (.cells #[.int .i64 q1,.int .i64 q2] 23)
   have BA:=hide ba
   clear ba
   go_wp2_with fail
   refine (unhide PF _).mono ?_
   rintro e w1 ⟨rfl,hb1⟩
   have B1:Hid (But [] wr w1):=(unhide BA).trans' hb1
   clear hb1
   obtain ⟨V,hV⟩:∃ V,V=w1.alloc (.cells #[.bool (R k),.int .u64 (X k),.int .u64 (Y k),.pointer none] 27):=⟨_,rfl⟩
   have cc:P4 V w1.heap.size (R k) (X k) (Y k) none:=by rw [hV];exact ⟨by simp,by simp,by simp,by simp⟩
   have bV:But [] wr V:=(unhide B1).trans' (by rw [hV];exact (But.refl _ _).alloc _)
   have oV:=ownsRow_but (unhide HI).1 bV
   obtain ⟨v',w',hr,ho,hg⟩:=append_frac V w.heap.size u3 k _ oV w1.heap.size _ _ _ _ cc (by omega) ((unhide HI).2.trans' bV).size
   have BF:Hid (But [] w w'):=but_of_grown ((unhide HI).2.trans' bV) oV (Nat.le_refl _) hg
   have HO:=hide ho
   rw [hV] at hr
   have HR:=hide hr
   clear hr ho hg oV bV cc hV
   go_wp2_with (at_builtin;refine wpList_app rfl _ _ 42 42 rfl _ _ v' w' rfl rfl (unhide HR) ?_)
   refine ⟨⟨k+1,by omega,by go_num,by rw [List.range_succ,List.map_append];exact unhide HO,unhide BF⟩,by simp [intOf];omega⟩
  ·obtain rfl:k=n:=by omega
   obtain ⟨a',c',rfl⟩:=ownsRow_form (unhide HI).1
   go_wp2
   go_ret
   have hlen:(qs.map qf).length=k:=by rw [List.length_map];exact (unhide HN).symm
   refine ⟨_,_,rfl,⟨by rw [hlen];exact (unhide HI).1,by simp [hlen],fun i f hi=>?_⟩,(unhide HI).2⟩
   have hik:i<k:=by rw [← hlen];exact (List.getElem?_eq_some_iff.1 hi).1
   refine ⟨_,_,_,_,by rw [List.getElem?_map,List.getElem?_range hik];rfl,?_⟩
   have h1:=(unhide HV i hik).1 wr
   rw [unhide HM i] at hi
   cases hq:qs[i]? with
   | none=>rw [hq] at hi;simp at hi
   | some q =>
    rw [hq] at hi h1
    simp only [Option.map_some,Option.some.injEq] at hi
    rw [← hi]
    exact h1
end Go.Proofs.YtollloafckcogaaGreatDoor

namespace Go.Proofs.YtollloafckcogaaGreatDoor
open Go.RowKit
theorem run_copy4 {P:Program} (w:World) (dT sT ty elem:TypeId) (b o dLen dCap:Nat) (a:Addr) (sLen sCap m:Nat) (cs:List Value)
  (hu:P.underlying dT=some (.slice elem)) (hs:(P.info? elem).map (·.size)=some 4) (hm:m=Nat.min sLen dLen) (hn:cs.length=m*4)
  (hsrc:∀ j v,cs[j]? = some v→w.cell? (a.add j)=some v) (hc:∀ j,j<cs.length→(w.cell? ⟨b,o+j,none⟩).isSome=true) (hf:∀ j,j<cs.length→w.frozen? ⟨b,o+j,none⟩=false) (h1:∀ v ∈ cs,v.oneCell'=true) :
  (Builtin.copy_ #[dT,sT] ty #[.slice (some ⟨b,o,none⟩) dLen dCap,.slice (some a) sLen sCap]).run P w=.ok (goInt m) (w.setCells b o cs):=by
 have hl:=run_loadCells_list (P:=P) w a cs hsrc
 have hst:=run_storeCells_cells (P:=P) b o cs 0 w (by simpa using hc) (by simpa using hf) h1
 cases hq:P.info? elem with
 | none=>simp [hq] at hs
 | some i =>
  have hi:i.size=4:=by simpa [hq] using hs
  rw [hn] at hl
  simp [Builtin.copy_,run_underlying hu,Builtin.lenOf,Builtin.firstCells,sizeOf,typeInfo,hq,hi,← hm,hl,hst]
theorem P4o.at {w:World} {b o:Nat} {s:Bool} {x y:Int} {p:Option Addr} (h:P4o w b o s x y p) (c:Nat) (hc:c<4):w.cell? ⟨b,o+c,none⟩=(#[Value.bool s,.int .u64 x,.int .u64 y,.pointer p]:Array Value)[c]?:=by
 have:c=0∨c=1∨c=2∨c=3:=by omega
 rcases this with rfl | rfl | rfl | rfl
 ·exact h.1
 ·exact h.2.1
 ·exact h.2.2.1
 ·exact h.2.2.2
end Go.Proofs.YtollloafckcogaaGreatDoor

namespace Go.Proofs.YtollloafckcogaaGreatDoor
open Go.RowKit
set_option maxHeartbeats 2000000
theorem bitsMul_any (x y:Nat) (hx:x < 18446744073709551616) (hy:y < 18446744073709551616) (w:World):Calls Tryz.prog 151 #[.int .u64 x,.int .u64 y] w fun e w'=>e=.returned (.tuple #[.int .u64 ((x*y / 18446744073709551616:Nat):Int),.int .u64 ((x*y % 18446744073709551616:Nat):Int)])∧w'=w:=by
 have MU:=hide (Tryz.bits_Mul64 x y hx hy w)
 generalize x*y / 18446744073709551616=hi at *
 generalize x*y % 18446744073709551616=lo at *
 go_enter Tryz.func151,Tryz.ntmps151
 go_wp2_with fail
 refine (unhide MU).mono ?_
 rintro e w1 ⟨rfl,h⟩
 obtain rfl:=h.symm
 clear h
 go_wp2
 go_ret2
 exact ⟨rfl,rfl⟩
structure Fill (w:World) (g k j:Nat) (s:Bool) (x y:Int) (p:Option Addr):Prop where
 cells:∀ o,o<k*4→(w.cell? ⟨g,o,none⟩).isSome=true
 loose:∀ o,w.frozen? ⟨g,o,none⟩=false
 full:∀ i,i<j→P4o w g (i*4) s x y p
theorem four_len (m:Nat) (s:Bool) (x y:Int) (p:Option Addr):(parts4 (List.replicate m (.agg #[.bool s,.int .u64 x,.int .u64 y,.pointer p]))).length=m*4:=by
 unfold parts4
 induction m with
 | zero=>rfl
 | succ m ih =>
  rw [List.replicate_succ,List.flatMap_cons,List.length_append,ih]
  simp [Value.cells]
  omega
theorem four_of {m j:Nat} {s:Bool} {x y:Int} {p:Option Addr} {v:Value} (h:(parts4 (List.replicate m (.agg #[.bool s,.int .u64 x,.int .u64 y,.pointer p])))[j]? = some v):∃ i c,j=4*i+c∧i<m∧c<4∧(#[Value.bool s,.int .u64 x,.int .u64 y,.pointer p]:Array Value)[c]? = some v:=by
 have hl:=four_len m s x y p
 have hj:j<m*4:=by rw [← hl];exact (List.getElem?_eq_some_iff.1 h).1
 refine ⟨j/4,j%4,by omega,by omega,by omega,?_⟩
 have h2:=parts4_get (List.replicate m (.agg #[.bool s,.int .u64 x,.int .u64 y,.pointer p])) (fun v hv=>by rw [List.mem_replicate] at hv;rw [hv.2];rfl) (j/4) (j%4) _ (by rw [List.getElem?_replicate,if_pos (by omega)]) (by omega)
 rw [show 4*(j/4)+j%4=j from by omega,h] at h2
 exact h2.symm
theorem four_at (m i c:Nat) (s:Bool) (x y:Int) (p:Option Addr) (hi:i<m) (hc:c<4):(parts4 (List.replicate m (.agg #[.bool s,.int .u64 x,.int .u64 y,.pointer p])))[4*i+c]? = (#[Value.bool s,.int .u64 x,.int .u64 y,.pointer p]:Array Value)[c]?:=by
 have h:=parts4_get (List.replicate m (.agg #[.bool s,.int .u64 x,.int .u64 y,.pointer p])) (fun v hv=>by rw [List.mem_replicate] at hv;rw [hv.2];rfl) i c (.agg #[.bool s,.int .u64 x,.int .u64 y,.pointer p]) (by rw [List.getElem?_replicate,if_pos hi]) hc
 exact h
theorem Fill.copied {w:World} {g k j:Nat} {s:Bool} {x y:Int} {p:Option Addr} (h:Fill w g k j s x y p) (b off m dLen dCap sLen sCap:Nat) (hm:m=Nat.min sLen dLen) (hk:j+m≤k) (hsrc:∀ i,i<m→P4o w b (off+i*4) s x y p) (ty:TypeId) :
  ∃ w',(Builtin.copy_ #[42,42] ty #[.slice (some ⟨g,j*4,none⟩) dLen dCap,.slice (some ⟨b,off,none⟩) sLen sCap]).run Tryz.prog w=.ok (goInt m) w'∧Fill w' g k (j+m) s x y p∧But [g] w w':=by
 have hsz:(Tryz.prog.info? 27).map (·.size)=some 4:=by
  obtain ⟨i,h1,-,h2,-⟩:=info_frac
  rw [h1,Option.map_some,h2]
 have hl:=four_len m s x y p
 refine ⟨_,run_copy4 w _ _ ty 27 g (j*4) dLen dCap ⟨b,off,none⟩ sLen sCap m (parts4 (List.replicate m (.agg #[.bool s,.int .u64 x,.int .u64 y,.pointer p]))) Tryz.underlying42 hsz hm hl (fun i v hv=>?_) (fun i hi=>?_) (fun i _=>h.loose _) (fun v hv=>?_),⟨fun o ho=>?_,fun o=>?_,fun i hi=>?_⟩,but_setCells _ _ _ _⟩
 ·obtain ⟨i',c,rfl,h1,h2,h3⟩:=four_of hv
  rw [addr_add,show off+(4*i' + c)=off+i' * 4+c from by omega,(hsrc i' h1).at c h2]
  exact h3
 ·rw [hl] at hi
  exact h.cells _ (by omega)
 ·obtain ⟨i,hi,rfl⟩:=List.mem_iff_getElem.1 hv
  obtain ⟨i',c,-,-,h2,h3⟩:=four_of (List.getElem?_eq_getElem hi)
  have:c=0∨c=1∨c=2∨c=3:=by omega
  rcases this with rfl | rfl | rfl | rfl <;> (simp at h3;rw [← h3];rfl)
 ·by_cases hin:j*4≤o∧o<j*4+m*4
  ·have:=World.cell?_setCells_in g (parts4 (List.replicate m (.agg #[.bool s,.int .u64 x,.int .u64 y,.pointer p]))) (j*4) w (fun i hi=>h.cells _ (by rw [hl] at hi;omega)) (o-j*4) (by rw [hl];omega)
   rw [show j*4+(o-j*4)=o from by omega] at this
   rw [this]
   rfl
  ·rw [World.cell?_setCells_out g _ (j*4) w _ (fun _ _=>by simp [hl];omega)]
   exact h.cells o ho
 ·rw [World.frozen?_setCells]
  exact h.loose o
 ·have hcell:∀ c,c<4→(w.setCells g (j*4) (parts4 (List.replicate m (.agg #[.bool s,.int .u64 x,.int .u64 y,.pointer p])))).cell? ⟨g,i*4+c,none⟩=(#[Value.bool s,.int .u64 x,.int .u64 y,.pointer p]:Array Value)[c]?:=fun c hc=>by
   by_cases hij:i<j
   ·rw [World.cell?_setCells_out g _ (j*4) w _ (fun _ _=>by simp [hl];omega)]
    exact (h.full i hij).at c hc
   ·have:=World.cell?_setCells_in g (parts4 (List.replicate m (.agg #[.bool s,.int .u64 x,.int .u64 y,.pointer p]))) (j*4) w (fun i hi=>h.cells _ (by rw [hl] at hi;omega)) (4*(i-j)+c) (by rw [hl];omega)
    rw [show j*4+(4*(i-j)+c)=i*4+c from by omega] at this
    rw [this,← four_at m (i-j) c s x y p (by omega) hc,List.getElem?_eq_getElem]
  exact ⟨hcell 0 (by omega),hcell 1 (by omega),hcell 2 (by omega),hcell 3 (by omega)⟩
end Go.Proofs.YtollloafckcogaaGreatDoor
