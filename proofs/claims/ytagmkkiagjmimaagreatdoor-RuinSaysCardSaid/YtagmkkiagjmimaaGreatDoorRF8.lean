/- A fraction's text, as the Go text of pac -/
import Derived.Test.YtagmkkiagjmimaaGreatDoorRF13
import Derived.Test.YtagmkkiagjmimaaGreatDoorRSOl
namespace Go.Proofs.YtagmkkiagjmimaaGreatDoor
open Go.Proofs.Tryz
open Go.RowKit
set_option maxHeartbeats 8000000
set_option maxRecDepth 100000
def ut (s:Bool) (p q:Nat):ByteArray:=(if s then ⟨#[45]⟩++⟨(Lib.decDigits p).toArray⟩ else ⟨(Lib.decDigits p).toArray⟩)++(if q=1 then ⟨#[]⟩ else ⟨#[47]⟩++⟨(Lib.decDigits q).toArray⟩)
theorem zgh (u:Nat) (h:(wd 18446744073709551616 u).length≤1000000):(Lib.decDigits u).length≤20000000:=by(
rcases Nat.eq_zero_or_pos u with rfl | h0
·rw[Lib.decDigits_length,Lib.nDigits_small (by omega)];omega
·rw[← zhu u h0,List.length_reverse];exact qam u 1000000 h)
theorem qqz (t:ByteArray):t++⟨#[]⟩=t:=by
 cases t;simp[ByteArray.ext_iff]
theorem zeg (v:Value) (f:Rat) (w:World) (hf:am w v f) (hL:Len f 1000000) (htab:Lib.TabIs prog w "internal/strconv.uint64pow10" .u64 Lib.pow10Tab) (t:ByteArray) (ht:Hid (t=ut (decide (f.num<0)) f.num.natAbs f.den)) :
  Calls prog 11 #[v] w fun e w'=>e=.returned (.string t)∧But [] w w':=by(
have hq0:=den_pos f
obtain⟨hN,hD⟩:=hL
obtain⟨tp,htp⟩:∃ tp:ByteArray,tp=⟨(Lib.decDigits f.num.natAbs).toArray⟩:=⟨_,rfl⟩
obtain⟨tq,htq⟩:∃ tq:ByteArray,tq=⟨(Lib.decDigits f.den).toArray⟩:=⟨_,rfl⟩
have sp:tp.size≤20000000:=by rw[htp];exact zgh _ hN
have sq:tq.size≤20000000:=by rw[htq];exact zgh _ hD
have HNU:Hid (∀ W,But [] w W→Calls prog 62 #[v] W fun e w'=>∃ v1 v2,e=.returned (.tuple #[v1,v2])∧Sl .u64 w' v1 (wd 18446744073709551616 f.num.natAbs)∧Sl .u64 w' v2 (wd 18446744073709551616 f.den)∧But [] W w'):=fun W hb=>yu v f W (hf.but hb)
have T1:Hid (∀ W v1,But [] w W→Sl .u64 W v1 (wd 18446744073709551616 f.num.natAbs)→Calls prog 63 #[v1] W fun e w'=>e=.returned (.string tp)∧But [] W w'):=fun W v1 hb h=>zkp v1 _ W h hN (TabIs.but htab hb) tp htp
have T2:Hid (∀ W v1,But [] w W→Sl .u64 W v1 (wd 18446744073709551616 f.den)→Calls prog 63 #[v1] W fun e w'=>e=.returned (.string tq)∧But [] W w'):=fun W v1 hb h=>zkp v1 _ W h hD (TabIs.but htab hb) tq htq
have HT:Hid (t=(if decide (f.num<0) then ⟨#[45]⟩++tp else tp)++(if f.den=1 then ⟨#[]⟩ else ⟨#[47]⟩++tq)):=by show _=_;rw[ae ht,ut,htp,htq]
have ONE:Hid (∀ W v1 (r:Bool),Hid (r=decide (f.den=1))→Sl .u64 W v1 (wd 18446744073709551616 f.den)→Calls prog 64 #[v1] W fun e w'=>e=.returned (.bool r)∧w'=W):=fun W v1 r hr h=>lv v1 _ W h (by omega) r hr
obtain⟨x,y,p,rfl,-⟩:=hf.agg
have hbw:But [] w (w.alloc (.cells #[.bool (decide (f.num<0)),.int .u64 x,.int .u64 y,.pointer p] 27)):=(But.refl _ _).alloc _
clear htp htq ht htab hN hD hf
generalize hs:decide (f.num<0)=s at *
clear hs
go_enter func11,ntmps11
go_wp2_with fail
refine (ae HNU _ hbw).mono ?_
rintro e w1 ⟨v1,v2,rfl,hv1,hv2,hb1⟩
have B1:=af (hbw.trans' hb1)
have HV1:=af hv1
have HV2:=af hv2
have c0:=hb1.ag (show (w.alloc (.cells #[.bool s,.int .u64 x,.int .u64 y,.pointer p] 27)).cell? ⟨w.heap.size,0,none⟩=some (.bool s) by simp) (by simp)
clear hv1 hv2 hb1
go_wp2_with fail
refine (ae T1 _ v1 (ae B1) (ae HV1)).mono ?_
rintro e w2 ⟨rfl,hb2⟩
have d0:=hb2.ag c0 (by simp)
have B2:Hid (But [] w w2):=(ae B1).trans' hb2
have HV3:=af ((ae HV2).ah hb2)
clear hb2 c0 HV2 hbw
cases s
all_goals(
go_wp2_with fail
by_cases hq1:f.den=1
·(
refine (ae ONE _ v2 true (by show true=_;simp[hq1]) (ae HV3)).mono ?_
rintro e w3 ⟨rfl,hw⟩
obtain rfl:=hw.symm
clear hw
go_wp2
go_ret
exact⟨by rw[ae HT,if_pos hq1,qqz];rfl,ae B2⟩)
·(
refine (ae ONE _ v2 false (by show false=_;simp[hq1]) (ae HV3)).mono ?_
rintro e w3 ⟨rfl,hw⟩
obtain rfl:=hw.symm
clear hw
go_wp2_with fail
refine (ae T2 _ v2 (ae B2) (ae HV3)).mono ?_
rintro e w3 ⟨rfl,hb3⟩
go_wp2
go_ret
exact⟨by rw[ae HT,if_neg hq1];rfl,(ae B2).trans' hb3⟩)))
theorem qqm (s:Bool) (p q:Nat) (hq:0<q) (hc:Nat.Coprime p q):∃ f:Rat,f.num=sgn s p∧f.den=q :=
 ⟨⟨sgn s p,q,by omega,by rw[jk];exact hc⟩,rfl,rfl⟩
theorem qlm (x y:Nat) (hy:0<y):Nat.Coprime (x/Nat.gcd x y) (y/Nat.gcd x y):=Nat.coprime_div_gcd_div_gcd (Nat.gcd_pos_of_pos_right _ hy)
theorem znk {f:Rat} {m n:Nat} (h1:f.num.natAbs < 18446744073709551616^m) (h2:f.den < 18446744073709551616^n) (k:Nat) (hm:m≤k) (hn:n≤k):Len f k :=
 ⟨Nat.le_trans (aj (by omega) _ _ h1) hm,Nat.le_trans (aj (by omega) _ _ h2) hn⟩
theorem Len.mono {f:Rat} {m n:Nat} (h:Len f m) (hn:m≤n):Len f n:=⟨Nat.le_trans h.1 hn,Nat.le_trans h.2 hn⟩
theorem Len.lt {f:Rat} {m:Nat} (h:Len f m):f.num.natAbs < 18446744073709551616^m∧f.den < 18446744073709551616^m:=⟨ak (by omega) _ _ h.1,ak (by omega) _ _ h.2⟩
theorem zan {f g:Rat} {m n:Nat} (h1:Len f m) (h2:Len g n) (k:Nat) (hk:m+n≤k):Len (f*g) k:=by(
obtain⟨a1,a2⟩:=h1.lt
obtain⟨c1,c2⟩:=h2.lt
obtain⟨e1,e2⟩:=zrz f g _ _ rfl rfl
refine znk (m:=m+n) (n:=m+n) ?_ ?_ k hk hk
·rw[e1,jk,Nat.pow_add]
 exact Nat.mul_lt_mul'' (Nat.lt_of_le_of_lt (Nat.div_le_self _ _) a1) (Nat.lt_of_le_of_lt (Nat.div_le_self _ _) c1)
·rw[e2,Nat.pow_add]
 exact Nat.mul_lt_mul'' (Nat.lt_of_le_of_lt (Nat.div_le_self _ _) a2) (Nat.lt_of_le_of_lt (Nat.div_le_self _ _) c2))
theorem zsf {f g:Rat} {m n:Nat} (h1:Len f m) (h2:Len g n) (k:Nat) (hk:m+n+1≤k):Len (f+g) k:=by(
obtain⟨a1,a2⟩:=h1.lt
obtain⟨c1,c2⟩:=h2.lt
obtain⟨M,s,hM⟩:∃ (M:Nat) (s:Bool),f.num*(g.den/Nat.gcd f.den g.den:Nat)+g.num*(f.den/Nat.gcd f.den g.den:Nat)=sgn s M:=by
 generalize f.num*(g.den/Nat.gcd f.den g.den:Nat)+g.num*(f.den/Nat.gcd f.den g.den:Nat)=z
 by_cases hz:z<0
 ·exact⟨z.natAbs,true,by simp[sgn];omega⟩
 ·exact⟨z.natAbs,false,by simp[sgn];omega⟩
obtain⟨e1,e2⟩:=zsv f g s M _ _ rfl rfl hM
have hMl:M < 18446744073709551616^(m+n+1):=by
 have h3:M≤f.num.natAbs*(g.den/Nat.gcd f.den g.den)+g.num.natAbs*(f.den/Nat.gcd f.den g.den):=by
  rw[← jk s M,← hM]
  refine Nat.le_trans (Int.natAbs_add_le _ _) ?_
  rw[Int.natAbs_mul,Int.natAbs_mul,Int.natAbs_natCast,Int.natAbs_natCast]
  exact Nat.le_refl _
 have h4:f.num.natAbs*(g.den/Nat.gcd f.den g.den) < 18446744073709551616^m * 18446744073709551616^n:=Nat.mul_lt_mul'' a1 (Nat.lt_of_le_of_lt (Nat.div_le_self _ _) c2)
 have h5:g.num.natAbs*(f.den/Nat.gcd f.den g.den) < 18446744073709551616^n * 18446744073709551616^m:=Nat.mul_lt_mul'' c1 (Nat.lt_of_le_of_lt (Nat.div_le_self _ _) a2)
 rw[Nat.mul_comm (18446744073709551616^n)] at h5
 rw[Nat.pow_succ,Nat.pow_add]
 generalize 18446744073709551616^m * 18446744073709551616^n=P at *
 omega
refine znk (m:=m+n+1) (n:=m+n) ?_ ?_ k hk (by omega)
·rw[e1,jk];exact Nat.lt_of_le_of_lt (Nat.div_le_self _ _) hMl
·rw[e2,Nat.pow_add]
 exact Nat.mul_lt_mul'' (Nat.lt_of_le_of_lt (Nat.div_le_self _ _) a2) (Nat.lt_of_le_of_lt (Nat.div_le_self _ _) c2))
theorem qli {f:Rat} {m:Nat} (h:Len f m):Len (-f) m:=by(
unfold Len
rw[Rat.neg_num,Rat.neg_den,Int.natAbs_neg]
exact h)
theorem zsc {f g:Rat} {m n:Nat} (h1:Len f m) (h2:Len g n) (k:Nat) (hk:m+n+1≤k):Len (f-g) k:=by
 rw[Rat.sub_eq_add_neg];exact zsf h1 (qli h2) k hk
theorem qlj {f:Rat} {m:Nat} (h:Len f m) (h0:f.num≠0):Len f⁻¹ m:=by(
obtain⟨i1,i2,-⟩:=zgd f h0
unfold Len
rw[i1,i2]
exact⟨h.2,h.1⟩)
theorem qaf {f g:Rat} {m n:Nat} (h1:Len f m) (h2:Len g n) (h0:g.num≠0) (k:Nat) (hk:m+n≤k):Len (f/g) k:=by
 rw[Rat.div_def];exact zan h1 (qlj h2 h0) k hk
theorem qqr (x y:Int) (p q k:Nat) (hx:x.natAbs=p*k) (hy:y.natAbs=q*k):sgn (decide (x<0) != decide (y<0)) p*y=x*q:=by(
have ex:x=sgn (decide (x<0)) (p*k):=by
 by_cases h:x<0
 ·simp[sgn,h];omega
 ·simp[sgn,h];omega
have ey:y=sgn (decide (y<0)) (q*k):=by
 by_cases h:y<0
 ·simp[sgn,h];omega
 ·simp[sgn,h];omega
generalize decide (x<0)=a at *
generalize decide (y<0)=b at *
rw[ex,ey]
cases a <;> cases b <;> simp[sgn,Int.natCast_mul] <;> grind)
theorem zqa (x y:Int) (hx1:-9223372036854775808≤x) (hx2:x<9223372036854775808) (hy1:-9223372036854775808≤y) (hy2:y<9223372036854775808) (hy0:y≠0) :
  ∃ (f:Rat) (r:Bool) (p q:Int),Len f 1∧f.num*y=x*f.den∧(∀ W,am W (.agg #[.bool r,.int .u64 p,.int .u64 q,.pointer none]) f)∧∀ W,Calls prog 60 #[.int .i64 x,.int .i64 y] W fun e w'=>e=.returned (.tuple #[.agg #[.bool r,.int .u64 p,.int .u64 q,.pointer none],.nilIface])∧But [] W w':=by(
have hyp:0<y.natAbs:=by omega
have hg:0<Nat.gcd x.natAbs y.natAbs:=Nat.gcd_pos_of_pos_right _ hyp
have hd1:=Nat.div_mul_cancel (Nat.gcd_dvd_left x.natAbs y.natAbs)
have hd2:=Nat.div_mul_cancel (Nat.gcd_dvd_right x.natAbs y.natAbs)
have hq0:0<y.natAbs/Nat.gcd x.natAbs y.natAbs:=Nat.div_pos (Nat.le_of_dvd hyp (Nat.gcd_dvd_right _ _)) hg
have hpB:x.natAbs/Nat.gcd x.natAbs y.natAbs < 18446744073709551616:=Nat.lt_of_le_of_lt (Nat.div_le_self _ _) (by omega)
have hqB:y.natAbs/Nat.gcd x.natAbs y.natAbs < 18446744073709551616:=Nat.lt_of_le_of_lt (Nat.div_le_self _ _) (by omega)
obtain⟨f,hn,hd⟩:=qqm (decide (x<0) != decide (y<0)) _ _ hq0 (qlm x.natAbs y.natAbs hyp)
have habs:f.num.natAbs=x.natAbs/Nat.gcd x.natAbs y.natAbs:=by rw[hn,jk]
refine⟨f,decide (f.num<0),(f.num.natAbs:Int),(f.den:Int)-1,?_,?_,fun W=>.inl ⟨by rw[habs];exact hpB,by rw[hd];exact hqB,rfl⟩,fun W=>?_⟩
·exact znk (m:=1) (n:=1) (by rw[habs,Nat.pow_one];exact hpB) (by rw[hd,Nat.pow_one];exact hqB) 1 (Nat.le_refl _) (Nat.le_refl _)
·rw[hn,hd]
 exact qqr x y _ _ _ hd1.symm hd2.symm
·rw[habs,hd]
 exact zyl x y hx1 hx2 hy1 hy2 hy0 W _ _ _ (by show _=_;rw[hn,zdy]) rfl rfl)
theorem zmz (x y:Int) (hx1:-9223372036854775808≤x) (hx2:x<9223372036854775808) (hy1:-9223372036854775808≤y) (hy2:y<9223372036854775808) :
  ∃ (f:Rat) (r:Bool) (p q:Int),Len f 1∧f.num*(if y=0 then 1 else y)=x*f.den∧(∀ W,am W (.agg #[.bool r,.int .u64 p,.int .u64 q,.pointer none]) f)∧∀ W,Calls prog 9 #[.agg #[.int .i64 x,.int .i64 y]] W fun e w'=>e=.returned (.agg #[.bool r,.int .u64 p,.int .u64 q,.pointer none])∧But [] W w':=by(
by_cases hy0:y=0
·(
subst hy0
obtain⟨f,r,p,q,h1,h2,h3,h4⟩:=zqa x 1 hx1 hx2 (by omega) (by omega) (by omega)
refine⟨f,r,p,q,h1,by rw[if_pos rfl];exact h2,h3,fun w=>?_⟩
have OF:=af h4
clear h1 h2 h3 h4
go_enter func9,ntmps9
go_wp2_with fail
obtain⟨W,hW⟩:∃ W,W=(w.alloc (.cells #[.int .i64 x,.int .i64 1] 23)).alloc (.cells #[.bool false,.int .u64 0,.int .u64 0,.pointer none] 27):=⟨_,rfl⟩
have r0:W.cell? ⟨w.heap.size+1,0,none⟩=some (.bool false):=by rw[hW];simp
have r1:W.cell? ⟨w.heap.size+1,1,none⟩=some (.int .u64 0):=by rw[hW];simp
have r2:W.cell? ⟨w.heap.size+1,2,none⟩=some (.int .u64 0):=by rw[hW];simp
have r3:W.cell? ⟨w.heap.size+1,3,none⟩=some (.pointer none):=by rw[hW];simp
have fz:∀ j,W.frozen? ⟨w.heap.size+1,j,none⟩=false:=fun j=>by rw[hW];simp
have hB:But [] w W:=by rw[hW];exact ((But.refl _ _).alloc _).alloc _
rw[← hW]
clear hW
obtain⟨gr,hgr⟩:∃ gr,gr=w.heap.size+1:=⟨_,rfl⟩
rw[← hgr] at r0 r1 r2 r3 fz
rw[← hgr]
have HGR:Hid (w.heap.size≤gr):=by show _≤_;omega
clear hgr
have grl:gr<W.heap.size:=ai r0
refine (ae OF _).mono ?_
rintro e w1 ⟨rfl,hb1⟩
have u0:=hb1.ag r0 (by simp)
have u1:=hb1.ag r1 (by simp)
have u2:=hb1.ag r2 (by simp)
have u3:=hb1.ag r3 (by simp)
have uf:∀ j,w1.frozen? ⟨gr,j,none⟩=false:=fun j=>(hb1.frozen (p:=⟨gr,j,none⟩) grl (by simp)).trans (fz j)
have HB1:Hid (But [] w w1):=hB.trans' hb1
have gl1:gr<w1.heap.size:=ai u0
clear hb1 hB r0 r1 r2 r3 fz grl
go_wp2
have hBf:=(((((ae HB1).setCell (p:=⟨gr,0,none⟩) (.inr (ae HGR)) (.bool r)).setCell (p:=⟨gr,1,none⟩) (.inr (ae HGR)) (.int .u64 p)).setCell (p:=⟨gr,2,none⟩) (.inr (ae HGR)) (.int .u64 q)).setCell (p:=⟨gr,3,none⟩) (.inr (ae HGR)) (.pointer none)).alloc (.cells #[.bool r,.int .u64 p,.int .u64 q,.pointer none] 27)
exact bodyPost_ret (v:=.agg #[.bool r,.int .u64 p,.int .u64 q,.pointer none]) (by simp[results,results9,go_sem,u0,u1,u2,u3,gl1]) rfl ⟨rfl,hBf⟩)
·(
obtain⟨f,r,p,q,h1,h2,h3,h4⟩:=zqa x y hx1 hx2 hy1 hy2 hy0
refine⟨f,r,p,q,h1,by rw[if_neg hy0];exact h2,h3,fun w=>?_⟩
have n0:(y==0)=false:=by simp[hy0]
have OF:=af h4
clear h1 h2 h3 h4
go_enter func9,ntmps9
go_wp2_with fail
obtain⟨W,hW⟩:∃ W,W=(w.alloc (.cells #[.int .i64 x,.int .i64 y] 23)).alloc (.cells #[.bool false,.int .u64 0,.int .u64 0,.pointer none] 27):=⟨_,rfl⟩
have r0:W.cell? ⟨w.heap.size+1,0,none⟩=some (.bool false):=by rw[hW];simp
have r1:W.cell? ⟨w.heap.size+1,1,none⟩=some (.int .u64 0):=by rw[hW];simp
have r2:W.cell? ⟨w.heap.size+1,2,none⟩=some (.int .u64 0):=by rw[hW];simp
have r3:W.cell? ⟨w.heap.size+1,3,none⟩=some (.pointer none):=by rw[hW];simp
have fz:∀ j,W.frozen? ⟨w.heap.size+1,j,none⟩=false:=fun j=>by rw[hW];simp
have hB:But [] w W:=by rw[hW];exact ((But.refl _ _).alloc _).alloc _
rw[← hW]
clear hW
obtain⟨gr,hgr⟩:∃ gr,gr=w.heap.size+1:=⟨_,rfl⟩
rw[← hgr] at r0 r1 r2 r3 fz
rw[← hgr]
have HGR:Hid (w.heap.size≤gr):=by show _≤_;omega
clear hgr
have grl:gr<W.heap.size:=ai r0
refine (ae OF _).mono ?_
rintro e w1 ⟨rfl,hb1⟩
have u0:=hb1.ag r0 (by simp)
have u1:=hb1.ag r1 (by simp)
have u2:=hb1.ag r2 (by simp)
have u3:=hb1.ag r3 (by simp)
have uf:∀ j,w1.frozen? ⟨gr,j,none⟩=false:=fun j=>(hb1.frozen (p:=⟨gr,j,none⟩) grl (by simp)).trans (fz j)
have HB1:Hid (But [] w w1):=hB.trans' hb1
have gl1:gr<w1.heap.size:=ai u0
clear hb1 hB r0 r1 r2 r3 fz grl
go_wp2
have hBf:=(((((ae HB1).setCell (p:=⟨gr,0,none⟩) (.inr (ae HGR)) (.bool r)).setCell (p:=⟨gr,1,none⟩) (.inr (ae HGR)) (.int .u64 p)).setCell (p:=⟨gr,2,none⟩) (.inr (ae HGR)) (.int .u64 q)).setCell (p:=⟨gr,3,none⟩) (.inr (ae HGR)) (.pointer none)).alloc (.cells #[.bool r,.int .u64 p,.int .u64 q,.pointer none] 27)
exact bodyPost_ret (v:=.agg #[.bool r,.int .u64 p,.int .u64 q,.pointer none]) (by simp[results,results9,go_sem,u0,u1,u2,u3,gl1]) rfl ⟨rfl,hBf⟩))
theorem bj (n:Int):((n:Int):Rat).num=n∧((n:Int):Rat).den=1:=⟨by simp,by simp⟩
theorem zct (n:Int) (h:n.natAbs < 18446744073709551616):Len ((n:Int):Rat) 1:=by
 obtain⟨h1,h2⟩:=bj n
 exact znk (m:=1) (n:=1) (by rw[h1,Nat.pow_one];exact h) (by rw[h2];decide) 1 (Nat.le_refl _) (Nat.le_refl _)
theorem zar (x:Int) (h1:-9223372036854775808≤x) (h2:x<9223372036854775808) :
  ∃ (r:Bool) (p:Int),(∀ W,am W (.agg #[.bool r,.int .u64 p,.int .u64 0,.pointer none]) ((x:Int):Rat))∧∀ W,Calls prog 79 #[.int .i64 x] W fun e w'=>e=.returned (.agg #[.bool r,.int .u64 p,.int .u64 0,.pointer none])∧But [] W w':=by(
obtain⟨e1,e2⟩:=bj x
refine⟨decide (x<0),((x.natAbs:Nat):Int),fun W=>.inl ⟨by rw[e1];omega,by rw[e2];decide,by rw[e1,e2];rfl⟩,fun W=>?_⟩
have h:=qaw x h1 h2 W
rw[show (((1:Nat):Int)-1)=0 from rfl] at h
exact h)
theorem qee (x:Rat):x*((x.den:Int):Rat)=((x.num:Int):Rat):=by(
obtain⟨i1,i2⟩:=bj (x.den:Int)
obtain⟨j1,j2⟩:=bj x.num
have h:=zbx x ((x.den:Int):Rat)
rw[i1,i2,Nat.mul_one] at h
have hd:=den_pos x
obtain⟨e1,e2⟩:=ig x.num 1 (by omega) (by simp) (x*((x.den:Int):Rat)) (by
 refine Int.eq_of_mul_eq_mul_right (show (x.den:Int)≠0 by omega) ?_
 grind)
exact Rat.ext (by rw[e1,j1]) (by rw[e2,j2]))
theorem int_ne (z:Int) (h:z≠0):((z:Int):Rat)≠0:=fun e=>h (by
 have:=congrArg Rat.num e
 rwa [(bj z).1] at this)
def qf (q:Int × Int):Rat:=((q.1:Int):Rat)/(((if q.2=0 then 1 else q.2):Int):Rat)
theorem qlx (f:Rat) (q:Int × Int) (h:f.num*(if q.2=0 then 1 else q.2)=q.1*f.den):f=qf q:=by(
unfold qf
have hy:(if q.2=0 then (1:Int) else q.2)≠0:=by split <;> omega
generalize (if q.2=0 then (1:Int) else q.2)=y at *
have h1:=qee f
have h2:((f.num*y:Int):Rat)=((q.1*(f.den:Int):Int):Rat):=by rw[h]
rw[Rat.intCast_mul,Rat.intCast_mul] at h2
have hd:=int_ne (f.den:Int) (by have:=den_pos f;omega)
have hy':=int_ne y hy
generalize ((y:Int):Rat)=Y at *
generalize ((f.den:Int):Rat)=D at *
generalize ((f.num:Int):Rat)=M at *
generalize ((q.1:Int):Rat)=X at *
rw[← h1] at h2
grind)
def Fits (q:Int × Int):Prop:=-9223372036854775808≤q.1∧q.1<9223372036854775808∧-9223372036854775808≤q.2∧q.2<9223372036854775808
theorem zjj (q:Int × Int) (h:Fits q):∃ (r:Bool) (x y:Int),Len (qf q) 1∧(∀ W,am W (.agg #[.bool r,.int .u64 x,.int .u64 y,.pointer none]) (qf q))∧∀ W,Calls prog 9 #[.agg #[.int .i64 q.1,.int .i64 q.2]] W fun e w'=>e=.returned (.agg #[.bool r,.int .u64 x,.int .u64 y,.pointer none])∧But [] W w':=by(
obtain⟨f,r,x,y,h1,h2,h3,h4⟩:=zmz q.1 q.2 h.1 h.2.1 h.2.2.1 h.2.2.2
have e:=qlx f q h2
subst e
exact⟨r,x,y,h1,h3,h4⟩)
def zwo (w:World) (v:Value) (qs:List (Int × Int)):Prop:=∃ a cap,v=.slice a qs.length cap∧qs.length≤cap∧∀ i q,qs[i]? = some q→∃ b off,a=some ⟨b,off,none⟩∧w.cell? ⟨b,off+i*2,none⟩=some (.int .i64 q.1)∧w.cell? ⟨b,off+i*2+1,none⟩=some (.int .i64 q.2)
theorem zwo.but {w w':World} {v:Value} {qs:List (Int × Int)} (h:zwo w v qs) (hb:But [] w w'):zwo w' v qs:=by(
obtain⟨a,cap,e,hc,h⟩:=h
refine⟨a,cap,e,hc,fun i q hq=>?_⟩
obtain⟨b,off,e1,h1,h2⟩:=h i q hq
exact⟨b,off,e1,hb.ag h1 (by simp),hb.ag h2 (by simp)⟩)
theorem zwl (w:World) (base:Nat) (v:Value) (k:Nat) (vs:List Value) (hown:w.ownsRow base 27 4 v k (zbg vs)) (g:Nat) (s:Bool) (x y:Int) (p:Option Addr) (c:P4 w g s x y p) (hk:k<1000000) (hb:base≤w.heap.size) :
  ∃ v' w',(Builtin.append_ #[46,46] 46 #[v,.slice (some ⟨g,0,none⟩) 1 1]).run prog w=.ok v' w'∧w'.ownsRow base 27 4 v' (k+1) (zbg (vs++[.agg #[.bool s,.int .u64 x,.int .u64 y,.pointer p]]))∧w.grownBy w' v.ownBlock:=by(
obtain⟨i0,hi,hz0,hz1,hz2⟩:=zpy
obtain⟨v',w',hr,ho,hg,-⟩:=run_append_own (P:=prog) w base 46 46 27 i0 _ 4 32 underlying46 hi hz0 hz1 hz2 rfl (by decide) v k (zbg vs) hown ⟨g,0,none⟩ 1 1 [.bool s,.int .u64 x,.int .u64 y,.pointer p] rfl (fun j u hj=>by
  have:j=0∨j=1∨j=2∨j=3∨4≤j:=by omega
  obtain⟨c0,c1,c2,c3⟩:=c
  rcases this with rfl|rfl|rfl|rfl | h4
  ·simp at hj;subst hj;exact c0
  ·simp at hj;subst hj;exact c1
  ·simp at hj;subst hj;exact c2
  ·simp at hj;subst hj;exact c3
  ·rw[List.getElem?_eq_none (by simpa using h4)] at hj;simp at hj) (fun u hu=>by
  simp only[List.mem_cons,List.not_mem_nil,or_false] at hu
  rcases hu with rfl|rfl|rfl|rfl <;> rfl) (by unfold maxLen;omega) (by omega) hb
refine⟨v',w',hr,?_,hg⟩
rw[zos]
exact ho)
set_option linter.unusedVariables false
structure zbi (w:World) (g n i:Nat) (F:Nat→Rat):Prop where
 blank:∀ j,i≤j→j<n→P4o w g (j*4) false 0 0 none
 told:∀ j,j<i→zdh w g (j*4) (F j)
 loose:∀ o,w.frozen? ⟨g,o,none⟩=false
theorem zbi.made (w:World) (n:Nat) (F:Nat→Rat):zbi (w.alloc (.cells (madeCells #[Value.bool false,.int .u64 0,.int .u64 0,.pointer none] (n*4)) 27)) w.heap.size n 0 F:=by(
have hc:∀ j k,j<n→k<4→(w.alloc (.cells (madeCells #[Value.bool false,.int .u64 0,.int .u64 0,.pointer none] (n*4)) 27)).cell? ⟨w.heap.size,j*4+k,none⟩=(#[Value.bool false,.int .u64 0,.int .u64 0,.pointer none]:Array Value)[k]?:=fun j k hj hk=>by
 rw[World.cell?_alloc_new,qdk n _ (by omega),show (j*4+k)%4=k from by omega]
exact⟨fun j _ hj=>⟨hc j 0 hj (by omega),hc j 1 hj (by omega),hc j 2 hj (by omega),hc j 3 hj (by omega)⟩,fun j hj=>by omega,fun o=>by simp⟩)
theorem zbi.but {w w':World} {g n i:Nat} {F:Nat→Rat} (h:zbi w g n i F) (hb:But [] w w') (hg:g<w.heap.size):zbi w' g n i F :=
 ⟨fun j h1 h2=>(h.blank j h1 h2).but hb (by simp),fun j hj=>(h.told j hj).but hb,fun o=>(hb.frozen (p:=⟨g,o,none⟩) hg (by simp)).trans (h.loose o)⟩
theorem zbi.bool {w:World} {g n i:Nat} {F:Nat→Rat} (h:zbi w g n i F) (h0:0<n):∃ s,w.cell? ⟨g,0,none⟩=some (.bool s):=by(
rcases Nat.eq_zero_or_pos i with e | e
·subst e
 have a:=h.blank 0 (Nat.le_refl _) h0
 rw[Nat.zero_mul] at a
 exact⟨_,a.1⟩
·obtain⟨s,x,y,p,a,-⟩:=h.told 0 e
 rw[Nat.zero_mul] at a
 exact⟨_,a.1⟩)
theorem zbi.next {w:World} {g n i:Nat} {F:Nat→Rat} (h:zbi w g n i F) (hi:i<n) (s1:Bool) (x1 y1:Int) (p1:Option Addr) (h1:am w (.agg #[.bool s1,.int .u64 x1,.int .u64 y1,.pointer p1]) (F i)) :
  zbi (w.setCells g (i*4) [.bool s1,.int .u64 x1,.int .u64 y1,.pointer p1]) g n (i+1) F:=by(
obtain⟨c,hc⟩:=h.bool (by omega)
have a1:=h.blank i (Nat.le_refl _) hi
have hb:=br w g [.bool s1,.int .u64 x1,.int .u64 y1,.pointer p1] (i*4)
have some4:∀ k,k<4→(w.cell? ⟨g,i*4+k,none⟩).isSome=true:=fun k hk=>by
 have:k=0∨k=1∨k=2∨k=3:=by omega
 rcases this with rfl|rfl|rfl|rfl
 ·rw[show i*4+0=i*4 from rfl,a1.1];rfl
 ·rw[a1.2.1];rfl
 ·rw[a1.2.2.1];rfl
 ·rw[a1.2.2.2];rfl
have hin:∀ k (hk:k<4),(w.setCells g (i*4) [.bool s1,.int .u64 x1,.int .u64 y1,.pointer p1]).cell? ⟨g,i*4+k,none⟩=some ([Value.bool s1,.int .u64 x1,.int .u64 y1,.pointer p1][k]'hk):=fun k hk =>
 World.cell?_setCells_in g [.bool s1,.int .u64 x1,.int .u64 y1,.pointer p1] (i*4) w (fun j hj=>some4 j hj) k hk
have hout:∀ o,o<i*4∨i*4+4≤o→(w.setCells g (i*4) [.bool s1,.int .u64 x1,.int .u64 y1,.pointer p1]).cell? ⟨g,o,none⟩=w.cell? ⟨g,o,none⟩:=fun o ho=>World.cell?_setCells_out g _ (i*4) w _ (fun _ _=>by simp;omega)
have keep:∀ o s x y p,o+4≤i*4∨i*4+4≤o→P4o w g o s x y p→P4o (w.setCells g (i*4) [.bool s1,.int .u64 x1,.int .u64 y1,.pointer p1]) g o s x y p:=fun o s x y p ho hp=>⟨(hout o (by omega)).trans hp.1,(hout (o+1) (by omega)).trans hp.2.1,(hout (o+2) (by omega)).trans hp.2.2.1,(hout (o+3) (by omega)).trans hp.2.2.2⟩
have hfr:∀ {v f},am w v f→am (w.setCells g (i*4) [.bool s1,.int .u64 x1,.int .u64 y1,.pointer p1]) v f:=fun hf=>hf.over hc hb
refine⟨fun j h1 h2=>keep _ _ _ _ _ (by omega) (h.blank j (by omega) h2),fun j hj=>?_,fun o=>by rw[World.frozen?_setCells];exact h.loose o⟩
by_cases e:j=i
·subst e
 exact⟨s1,x1,y1,p1,⟨hin 0 (by omega),hin 1 (by omega),hin 2 (by omega),hin 3 (by omega)⟩,hfr h1⟩
·obtain⟨t1,u1,v1,q1,b1,f1⟩:=h.told j (by omega)
 exact⟨t1,u1,v1,q1,keep _ _ _ _ _ (by omega) b1,hfr f1⟩)
theorem zbi.znr {w:World} {g n:Nat} {F:Nat→Rat} (h:zbi w g n n F):aq w (.slice (some ⟨g,0,none⟩) n n) ((List.range n).map F) :=
 ⟨some ⟨g,0,none⟩,n,by simp,by simp,fun i f hf=>by
  rw[List.getElem?_map] at hf
  by_cases hi:i<n
  ·rw[List.getElem?_range hi] at hf
   simp only[Option.map_some,Option.some.injEq] at hf
   subst hf
   exact⟨g,0,rfl,by rw[Nat.zero_add];exact h.told i hi⟩
  ·rw[List.getElem?_eq_none (by simp;omega)] at hf
   simp at hf⟩
theorem am.qly {w W:World} {v:Value} {f:Rat} (h:am w v f) {g:Nat} {s:Bool} (c1:w.cell? ⟨g,1,none⟩=some (.bool s)) (hb:But [g] w W):am W v f:=by(
rcases h with h1|⟨h1,b,v1,v2,h2,h3,h4,h5,h6⟩
·exact .inl h1
·(
have hbg:b≠g:=by
 rintro rfl
 obtain⟨a,cap,rfl,-⟩:=h6
 rw[c1] at h4
 simp at h4
exact .inr ⟨h1,b,v1,v2,h2,hb.ag h3 (by simpa using hbg),hb.ag h4 (by simpa using hbg),h5.over hb c1 (by simp),h6.over hb c1 (by simp)⟩))
def zbq (B n:Nat) (F:Nat→Rat) (w:World) (v:Value):Prop:=∃ g,v=.slice (some ⟨g,0,none⟩) n n∧zbi w g n n F∧B≤g∧g<w.heap.size
theorem zbq.but {B n:Nat} {F:Nat→Rat} {w w':World} {v:Value} (h:zbq B n F w v) (hb:But [] w w'):zbq B n F w' v:=by
 obtain⟨g,e,h1,h2,h3⟩:=h
 exact⟨g,e,h1.but hb h3,h2,Nat.lt_of_lt_of_le h3 hb.size⟩
theorem zxd (a:Act) (w:World) (d t1 t2:Nat) (u:TypeId) (ps:String) (ed:Array Edge) (gd:Option (Nat × Bool)) (x1 x2:Value) (h1:a.eval (.tmp t1)=x1) (h2:a.eval (.tmp t2)=x2) :
  (execOp a.eval { dst:=some d,op:=Op.call { callee:=Callee.value (Operand.func 159),args:=#[Operand.tmp t1,Operand.tmp t2],argTypes:=#[46,27] },type:=u,pos:=ps,after:=ed,guard:=gd }).run prog w=.ok (.enter 159 #[x1,x2]) w:=by(
unfold execOp
go_simp
rw[← h1,← h2]
simp[Act.eval])
structure zbd (w:World) (g:Nat) (i:Int) (s:Bool) (x y:Int) (p:Option Addr) (v:Value):Prop where
 c0:w.cell? ⟨g,0,none⟩=some (.int .i64 i)
 c1:w.cell? ⟨g,1,none⟩=some (.bool s)
 c2:w.cell? ⟨g,2,none⟩=some (.int .u64 x)
 c3:w.cell? ⟨g,3,none⟩=some (.int .u64 y)
 c4:w.cell? ⟨g,4,none⟩=some (.pointer p)
 c5:w.cell? ⟨g,5,none⟩=some v
 loose:∀ j,w.frozen? ⟨g,j,none⟩=false
theorem zbd.new (w:World) (i:Int) (s:Bool) (x y:Int) (p:Option Addr) (v:Value) (t:TypeId):zbd (w.alloc (.cells #[.int .i64 i,.bool s,.int .u64 x,.int .u64 y,.pointer p,v] t)) w.heap.size i s x y p v :=
 ⟨by simp,by simp,by simp,by simp,by simp,by simp,fun j=>by simp⟩
theorem zbd.lt {w:World} {g:Nat} {i:Int} {s:Bool} {x y:Int} {p:Option Addr} {v:Value} (h:zbd w g i s x y p v):g<w.heap.size:=ai h.c0
theorem zbd.but {w w':World} {g:Nat} {i:Int} {s:Bool} {x y:Int} {p:Option Addr} {v:Value} {l:List Nat} (h:zbd w g i s x y p v) (hb:But l w w') (hn:g ∉ l):zbd w' g i s x y p v :=
 ⟨hb.ag h.c0 hn,hb.ag h.c1 hn,hb.ag h.c2 hn,hb.ag h.c3 hn,hb.ag h.c4 hn,hb.ag h.c5 hn,fun j=>(hb.frozen (p:=⟨g,j,none⟩) h.lt hn).trans (h.loose j)⟩
theorem zbd.put {w:World} {g:Nat} {i:Int} {s:Bool} {x y:Int} {p:Option Addr} {v:Value} (h:zbd w g i s x y p v) (i':Int) (s':Bool) (x' y':Int) (p':Option Addr) (v':Value):zbd (w.setCells g 0 [.int .i64 i',.bool s',.int .u64 x',.int .u64 y',.pointer p',v']) g i' s' x' y' p' v':=by(
have some6:∀ k,k<6→(w.cell? ⟨g,0+k,none⟩).isSome=true:=fun k hk=>by
 have:k=0∨k=1∨k=2∨k=3∨k=4∨k=5:=by omega
 rcases this with rfl|rfl|rfl|rfl|rfl|rfl
 ·rw[show 0+0=0 from rfl,h.c0];rfl
 ·rw[show 0+1=1 from rfl,h.c1];rfl
 ·rw[show 0+2=2 from rfl,h.c2];rfl
 ·rw[show 0+3=3 from rfl,h.c3];rfl
 ·rw[show 0+4=4 from rfl,h.c4];rfl
 ·rw[show 0+5=5 from rfl,h.c5];rfl
have hin:∀ k (hk:k<6),(w.setCells g 0 [.int .i64 i',.bool s',.int .u64 x',.int .u64 y',.pointer p',v']).cell? ⟨g,0+k,none⟩=some ([.int .i64 i',.bool s',.int .u64 x',.int .u64 y',.pointer p',v'][k]'hk):=fun k hk =>
 World.cell?_setCells_in g [.int .i64 i',.bool s',.int .u64 x',.int .u64 y',.pointer p',v'] 0 w (fun j hj=>some6 j hj) k hk
exact⟨hin 0 (by omega),hin 1 (by omega),hin 2 (by omega),hin 3 (by omega),hin 4 (by omega),hin 5 (by omega),fun j=>by rw[World.frozen?_setCells];exact h.loose j⟩)
theorem zrd (a:Act) (w:World) (d t:Nat) (u:TypeId) (ps:String) (ed:Array Edge) (gd:Option (Nat × Bool)) (b:Nat) (yi:Int) (s1:Bool) (x1 y1:Int) (p1:Option Addr) (yq:Option Addr) (yn yc:Nat) (h1:a.eval (.tmp t)=.pointer (some ⟨b,0,none⟩)) (hc:zbd w b yi s1 x1 y1 p1 (.slice yq yn yc)) :
  (execOp a.eval { dst:=some d,op:=Op.load 122 (.tmp t),type:=u,pos:=ps,after:=ed,guard:=gd }).run prog w=.ok (.value (.agg #[.int .i64 yi,.bool s1,.int .u64 x1,.int .u64 y1,.pointer p1,.slice yq yn yc])) w:=by(
obtain⟨c0,c1,c2,c3,c4,c5,-⟩:=hc
unfold execOp
simp only[h1]
go_simp)
theorem zxf (a:Act) (w:World) (d t1 t2:Nat) (u:TypeId) (ps:String) (ed:Array Edge) (gd:Option (Nat × Bool)) (m n:Nat) (hm:m≤1000000) (hn:n≤m) (h1:a.eval (.tmp t1)=.int .i64 (m:Int)) (h2:a.eval (.tmp t2)=.int .i64 (n:Int)) :
  (execOp a.eval { dst:=some d,op:=Op.binOp BinOp.sub 3 (.tmp t1) (.tmp t2) 3,type:=u,pos:=ps,after:=ed,guard:=gd }).run prog w=.ok (.value (.int .i64 ((m-n:Nat):Int))) w:=by(
unfold execOp
simp only[h1,h2]
go_simp
rw[IntKind.wrap_i64]
omega)
theorem ztt (a:Act) (w:World) (d t1:Nat) (u:TypeId) (ps:String) (ed:Array Edge) (gd:Option (Nat × Bool)) (m:Nat) (hm:m≤1000000) (h1:a.eval (.tmp t1)=.int .i64 ((m+1:Nat):Int)) :
  (execOp a.eval { dst:=some d,op:=Op.binOp BinOp.sub 3 (.tmp t1) (Operand.const (Value.int IntKind.i64 1)) 3,type:=u,pos:=ps,after:=ed,guard:=gd }).run prog w=.ok (.value (.int .i64 (m:Int))) w:=by(
have e:a.eval (.const (.int .i64 1))=.int .i64 1:=rfl
unfold execOp
simp only[h1,e]
go_simp
rw[IntKind.wrap_i64]
omega)
theorem zey (a:Act) (w:World) (d t1 t2:Nat) (u:TypeId) (ps:String) (ed:Array Edge) (gd:Option (Nat × Bool)) (b off n c k:Nat) (hk:k<n) (_hn:n<1000000) (h1:a.eval (.tmp t1)=.slice (some ⟨b,off,none⟩) n c) (h2:a.eval (.tmp t2)=.int .i64 (k:Int)) :
  (execOp a.eval { dst:=some d,op:=Op.indexAddr 46 (.tmp t1) (.tmp t2),type:=u,pos:=ps,after:=ed,guard:=gd }).run prog w=.ok (.value (.pointer (some ⟨b,off+k*4,none⟩))) w:=by(
unfold execOp
simp only[h1,h2]
go_simp)
theorem zxj (a:Act) (w:World) (d t0 t1 t2:Nat) (u:TypeId) (ps:String) (ed:Array Edge) (gd:Option (Nat × Bool)) (yi:Int) (g n:Nat) (s1:Bool) (x1 y1:Int) (p1:Option Addr) (h0:a.eval (.tmp t0)=.int .i64 yi) (h1:a.eval (.tmp t1)=.agg #[.bool s1,.int .u64 x1,.int .u64 y1,.pointer p1]) (h2:a.eval (.tmp t2)=.slice (some ⟨g,0,none⟩) n n) :
  (execOp a.eval { dst:=some d,op:=Op.build 122 #[(0,Operand.tmp t0),(1,Operand.tmp t1),(2,Operand.tmp t2)],type:=u,pos:=ps,after:=ed,guard:=gd }).run prog w=.ok (.value (.agg #[.int .i64 yi,.bool s1,.int .u64 x1,.int .u64 y1,.pointer p1,.slice (some ⟨g,0,none⟩) n n])) w:=by(
unfold execOp
simp only[List.map_toArray,List.map_cons,List.map_nil,h0,h1,h2]
go_simp)
theorem zxe (a:Act) (w:World) (t1 t2:Nat) (u:TypeId) (ps:String) (ed:Array Edge) (gb:Nat) (yi:Int) (g n:Nat) (s1:Bool) (x1 y1:Int) (p1:Option Addr) {ib:Int} {vb:Value} {sb:Bool} {xb yb:Int} {pb:Option Addr} (h1:a.eval (.tmp t1)=.pointer (some ⟨gb,0,none⟩)) (h2:a.eval (.tmp t2)=.agg #[.int .i64 yi,.bool s1,.int .u64 x1,.int .u64 y1,.pointer p1,.slice (some ⟨g,0,none⟩) n n]) (hc:zbd w gb ib sb xb yb pb vb) :
  (execOp a.eval { dst:=none,op:=Op.store 122 (.tmp t1) (.tmp t2),type:=u,pos:=ps,after:=ed,guard:=none }).run prog w=.ok .skip (w.setCells gb 0 [.int .i64 yi,.bool s1,.int .u64 x1,.int .u64 y1,.pointer p1,.slice (some ⟨g,0,none⟩) n n]):=by(
obtain⟨c0,c1,c2,c3,c4,c5,fz⟩:=hc
unfold execOp
simp only[h1,h2]
go_simp
rfl)
theorem zxl (a:Act) (w:World) (d t0 t1 t2:Nat) (u:TypeId) (ps:String) (ed:Array Edge) (gd:Option (Nat × Bool)) (z0 z1 z2:Value) (h0:a.eval (.tmp t0)=z0) (h1:a.eval (.tmp t1)=z1) (h2:a.eval (.tmp t2)=z2) :
  (execOp a.eval { dst:=some d,op:=Op.call { callee:=Callee.value (Operand.func 160),args:=#[Operand.tmp t0,Operand.tmp t1,Operand.tmp t2],argTypes:=#[122,46,3] },type:=u,pos:=ps,after:=ed,guard:=gd }).run prog w=.ok (.enter 160 #[z0,z1,z2]) w:=by(
unfold execOp
go_simp
rw[← h0,← h1,← h2]
simp[Act.eval])
theorem zre (a:Act) (w:World) (d t0 t1 t2:Nat) (u:TypeId) (ps:String) (ed:Array Edge) (gd:Option (Nat × Bool)) (z0 z1 z2:Value) (h0:a.eval (.tmp t0)=z0) (h1:a.eval (.tmp t1)=z1) (h2:a.eval (.tmp t2)=z2) :
  (execOp a.eval { dst:=some d,op:=Op.call { callee:=Callee.value (Operand.func 76),args:=#[Operand.tmp t0,Operand.tmp t1,Operand.tmp t2],argTypes:=#[122,3,3] },type:=u,pos:=ps,after:=ed,guard:=gd }).run prog w=.ok (.enter 76 #[z0,z1,z2]) w:=by(
unfold execOp
go_simp
rw[← h0,← h1,← h2]
simp[Act.eval])
theorem qbn (a:Act) (w:World) (d t0 t1:Nat) (u:TypeId) (ps:String) (ed:Array Edge) (gd:Option (Nat × Bool)) (z0 z1:Value) (h0:a.eval (.tmp t0)=z0) (h1:a.eval (.tmp t1)=z1) :
  (execOp a.eval { dst:=some d,op:=Op.call { callee:=Callee.value (Operand.func 78),args:=#[Operand.tmp t0,Operand.tmp t1],argTypes:=#[122,3] },type:=u,pos:=ps,after:=ed,guard:=gd }).run prog w=.ok (.enter 78 #[z0,z1]) w:=by(
unfold execOp
go_simp
rw[← h0,← h1]
simp[Act.eval])
def zjz (B:Nat) (yi:Int) (n:Nat) (F:Nat→Rat) (s1:Bool) (x1 y1:Int) (p1:Option Addr) (w:World) (v:Value):Prop:=∃ u,v=.agg #[.int .i64 yi,.bool s1,.int .u64 x1,.int .u64 y1,.pointer p1,u]∧zbq B n F w u
theorem zjz.but {B:Nat} {yi:Int} {n:Nat} {F:Nat→Rat} {s1:Bool} {x1 y1:Int} {p1:Option Addr} {w w':World} {v:Value} (h:zjz B yi n F s1 x1 y1 p1 w v) (hb:But [] w w'):zjz B yi n F s1 x1 y1 p1 w' v:=by
 obtain⟨u,e,h1⟩:=h
 exact⟨u,e,h1.but hb⟩
def qpg:Oper:=⟨some 9,.move (.tmp 0),3, "ruin.go:59",#[],none⟩
def qpf:Oper:=⟨some 10,.load 27 (.tmp 5),27, "ruin.go:59",#[],none⟩
def qpe:Oper:=⟨some 11,.move (.tmp 1),47, "ruin.go:59",#[],none⟩
def qpd:Oper:=⟨some 12,.load 27 (.tmp 5),27, "ruin.go:59",#[],none⟩
def qpc:Oper:=⟨some 13,.call { callee:=.value (.func 159),args:=#[.tmp 11,.tmp 12],argTypes:=#[46,27] },46, "ruin.go:59",#[⟨2,.data⟩,⟨3,.data⟩],none⟩
def qpb:Oper:=⟨some 14,.build 122 #[(0,.tmp 9),(1,.tmp 10),(2,.tmp 13)],122, "ruin.go:59",#[⟨0,.data⟩,⟨1,.data⟩,⟨4,.data⟩],none⟩
def qpa:Oper:=⟨none,.store 122 (.tmp 4) (.tmp 14),0, "ruin.go:59",#[⟨5,.data⟩,⟨4,.chain⟩,⟨0,.phase⟩,⟨1,.phase⟩,⟨2,.phase⟩,⟨3,.phase⟩,⟨4,.phase⟩,⟨5,.phase⟩],none⟩
def zgp:Array Oper:=#[qpg,qpf,qpe,qpd,qpc,qpb,qpa]
def zih (i:Nat):Nat:=match i with
 | 0=>9
 | 1=>10
 | 2=>11
 | 3=>12
 | 4=>13
 | _=>14
def zva (B:Nat) (yi:Int) (n:Nat) (F:Nat→Rat) (s1:Bool) (x1 y1:Int) (p1:Option Addr) (vl:Value) (i:Nat) (w:World) (v:Value):Prop:=match i with
 | 0=>v=.int .i64 yi
 | 1=>v=.agg #[.bool s1,.int .u64 x1,.int .u64 y1,.pointer p1]
 | 2=>v=vl
 | 3=>v=.agg #[.bool s1,.int .u64 x1,.int .u64 y1,.pointer p1]
 | 4=>zbq B n F w v
 | _=>zjz B yi n F s1 x1 y1 p1 w v
theorem qcx {B:Nat} {yi:Int} {n:Nat} {F:Nat→Rat} {s1:Bool} {x1 y1:Int} {p1:Option Addr} {vl:Value} {i:Nat} {w w':World} {v:Value} (h:zva B yi n F s1 x1 y1 p1 vl i w v) (hi:i<6) (hb:But [] w w'):zva B yi n F s1 x1 y1 p1 vl i w' v:=by(
have:i=0∨i=1∨i=2∨i=3∨i=4∨i=5:=by omega
rcases this with rfl|rfl|rfl|rfl|rfl|rfl
·exact h
·exact h
·exact h
·exact h
·exact zbq.but h hb
·exact zjz.but h hb)
theorem qcw:∀ i j,i<6→j<6→zih i=zih j→i=j:=fun i j hi hj=>(by decide:∀ i,i<6→∀ j,j<6→zih i=zih j→i=j) i hi j hj
theorem ztc (id:Nat) (Q:Exit→Act→World→Prop) (base:Act) (W0:World) (B:Nat) (yi:Int) (n:Nat) (F:Nat→Rat) (s1:Bool) (x1 y1:Int) (p1:Option Addr) (vl:Value) (gb g5:Nat) {ib:Int} {vb:Value} {sb:Bool} {xb yb:Int} {pb:Option Addr} (hs:14<base.tmps.size) (e0:base.eval (.tmp 0)=.int .i64 yi) (e1:base.eval (.tmp 1)=vl) (e4:base.eval (.tmp 4)=.pointer (some ⟨gb,0,none⟩)) (e5:base.eval (.tmp 5)=.pointer (some ⟨g5,0,none⟩)) (cb:zbd W0 gb ib sb xb yb pb vb) (c1:P4 W0 g5 s1 x1 y1 p1)
  (TI:∀ w,But [] W0 w→Calls prog 159 #[vl,.agg #[.bool s1,.int .u64 x1,.int .u64 y1,.pointer p1]] w fun e w'=>∃ v,e=.returned v∧zbq B n F w' v∧But [] w w')
  (hQ:∀ w1 v4 g',But [] W0 w1→zbi w1 g' n n F→B≤g'→g' < w1.heap.size→Q .normal (bi base [(9,.int .i64 yi),(10,.agg #[.bool s1,.int .u64 x1,.int .u64 y1,.pointer p1]),(11,vl),(12,.agg #[.bool s1,.int .u64 x1,.int .u64 y1,.pointer p1]),(13,v4),(14,.agg #[.int .i64 yi,.bool s1,.int .u64 x1,.int .u64 y1,.pointer p1,.slice (some ⟨g',0,none⟩) n n])]) (w1.setCells gb 0 [.int .i64 yi,.bool s1,.int .u64 x1,.int .u64 y1,.pointer p1,.slice (some ⟨g',0,none⟩) n n])) :
  (Code.region id zgp true).wp prog Q base W0:=by(
have hdr:∀ {w},But [] W0.drew w→But [] W0 w:=fun h=>(But.refl _ _).drew.trans' h
have hT:∀ i,i<6→zih i<base.tmps.size:=fun i hi=>by
 have h:zih i≤14:=by revert i;decide
 omega
refine ic (by kernel_rfl) (dx (by kernel_rfl)) (fun i o ho=>(zao (ops:=zgp) (by kernel_rfl) i o ho).1)
 (fun _ w=>But [] W0.drew w) (zva B yi n F s1 x1 y1 p1 vl) zih 6 rfl qcw hT (But.refl _ _)
 (fun i hi=>?_) ?_ (fun a w=>∃ w1 v4 g',a=bi base [(9,.int .i64 yi),(10,.agg #[.bool s1,.int .u64 x1,.int .u64 y1,.pointer p1]),(11,vl),(12,.agg #[.bool s1,.int .u64 x1,.int .u64 y1,.pointer p1]),(13,v4),(14,.agg #[.int .i64 yi,.bool s1,.int .u64 x1,.int .u64 y1,.pointer p1,.slice (some ⟨g',0,none⟩) n n])]∧w=w1.setCells gb 0 [.int .i64 yi,.bool s1,.int .u64 x1,.int .u64 y1,.pointer p1,.slice (some ⟨g',0,none⟩) n n]∧But [] W0 w1∧zbi w1 g' n n F∧B≤g'∧g' < w1.heap.size) ?_ ?_
·exact pg (ops:=zgp) (ps:=[(6,0),(6,1),(6,2),(6,3),(6,4),(6,5)]) (by kernel_rfl) 6 i (by
  have:i=0∨i=1∨i=2∨i=3∨i=4∨i=5:=by omega
  rcases this with rfl|rfl|rfl|rfl|rfl|rfl <;> simp)
·(
intro dn i o a w K hi ho hdi hH he hdep hK
have hD:=fun j hj=>(xu (ps:=[(4,2),(4,3),(5,0),(5,1),(5,4)]) (by kernel_rfl) ho (fun j=>dn j=true∧zva B yi n F s1 x1 y1 p1 vl j w (a.eval (.tmp (zih j)))) hdep j hj).2
have hk:∀ v w',But [] w w'→zva B yi n F s1 x1 y1 p1 vl i w' v→K (a.put (some (zih i)) v) w':=fun v w' hb hv=>hK v w' (hH.trans' hb) (fun j hj _ u hu=>qcx hu hj hb) hv
have e0':=(he 0 (fun j hj e=>absurd e.symm (by revert j;decide))).trans e0
have e1':=(he 1 (fun j hj e=>absurd e.symm (by revert j;decide))).trans e1
have e5':=(he 5 (fun j hj e=>absurd e.symm (by revert j;decide))).trans e5
have:i=0∨i=1∨i=2∨i=3∨i=4∨i=5:=by omega
rcases this with rfl|rfl|rfl|rfl|rfl|rfl
·obtain rfl:=so (show zgp[0]? =some qpg from rfl) ho
 exact al (bz a w _ _ _ _ _ _ _ e0') (hk _ _ (But.refl _ _) rfl)
·obtain rfl:=so (show zgp[1]? =some qpf from rfl) ho
 exact al (av a w _ _ _ _ _ _ g5 0 _ _ _ _ e5' (c1.but (hdr hH) (by simp))) (hk _ _ (But.refl _ _) rfl)
·obtain rfl:=so (show zgp[2]? =some qpe from rfl) ho
 exact al (bz a w _ _ _ _ _ _ _ e1') (hk _ _ (But.refl _ _) rfl)
·obtain rfl:=so (show zgp[3]? =some qpd from rfl) ho
 exact al (av a w _ _ _ _ _ _ g5 0 _ _ _ _ e5' (c1.but (hdr hH) (by simp))) (hk _ _ (But.refl _ _) rfl)
·obtain rfl:=so (show zgp[4]? =some qpc from rfl) ho
 exact ax (zxd a w _ _ _ _ _ _ _ _ _ (hD 2 (by simp)) (hD 3 (by simp))) (R:=fun w' v=>zbq B n F w' v∧But [] w w') (TI w (hdr hH)) (fun v w' hv=>hk v w' hv.2 hv.1)
·(
obtain rfl:=so (show zgp[5]? =some qpb from rfl) ho
have ht:zbq B n F w (a.eval (.tmp 13)):=(hD 4 (by simp))
have ht':=ht
obtain⟨g',eg,-⟩:=ht
exact al (zxj a w _ _ _ _ _ _ _ _ yi g' n s1 x1 y1 p1 (hD 0 (by simp)) (hD 1 (by simp)) eg) (hk _ _ (But.refl _ _) ⟨_,rfl,by rw[← eg];exact ht'⟩)))
·(
intro dn o a w K ho hall h hK
obtain rfl:=so (show zgp[6]? =some qpa from rfl) ho
have eb':=(h.eval 4 (fun j hj e=>absurd e.symm (by revert j;decide))).trans e4
have hb:zjz B yi n F s1 x1 y1 p1 w (a.eval (.tmp 14)):=h.has 5 (by omega) (hall 5 (by omega))
obtain⟨u,ev,g',rfl,hr1,hr2,hr3⟩:=hb
have ea:=h.puts hT (fun i=>match i with
 | 0=>.int .i64 yi
 | 1=>.agg #[.bool s1,.int .u64 x1,.int .u64 y1,.pointer p1]
 | 2=>vl
 | 3=>.agg #[.bool s1,.int .u64 x1,.int .u64 y1,.pointer p1]
 | 4=>a.eval (.tmp 13)
 | _=>.agg #[.int .i64 yi,.bool s1,.int .u64 x1,.int .u64 y1,.pointer p1,.slice (some ⟨g',0,none⟩) n n]) (fun i hi=>by
 have hc:=h.has i hi (hall i hi)
 have:i=0∨i=1∨i=2∨i=3∨i=4∨i=5:=by omega
 rcases this with rfl|rfl|rfl|rfl|rfl|rfl
 all_goals first | exact ev | exact hc|rfl)
exact xh (zxe a w _ _ _ _ _ gb yi g' n s1 x1 y1 p1 eb' ev (cb.but (hdr h.mem) (by simp))) (hK _ _ ⟨w,a.eval (.tmp 13),g',ea,rfl,hdr h.mem,hr1,hr2,hr3⟩))
·rintro a w ⟨w1,v4,g',rfl,rfl,h1,h2,h3,h4⟩
 exact hQ w1 v4 g' h1 h2 h3 h4)
def qoz:Oper:=⟨some 30,.load 27 (.tmp 8),27, "ruin.go:90",#[],none⟩
def qoy:Oper:=⟨some 31,.load 27 (.tmp 10),27, "ruin.go:90",#[],none⟩
def qox:Oper:=⟨some 32,.move (.tmp 1),46, "ruin.go:90",#[],none⟩
def qow:Oper:=⟨some 33,.move (.tmp 7),3, "ruin.go:90",#[],none⟩
def qov:Oper:=⟨some 34,.move (.tmp 9),3, "ruin.go:90",#[],none⟩
def qou:Oper:=⟨some 35,.binOp .sub 3 (.tmp 33) (.tmp 34) 3,3, "ruin.go:90",#[⟨3,.data⟩,⟨4,.data⟩],none⟩
def qot:Oper:=⟨some 36,.indexAddr 46 (.tmp 32) (.tmp 35),0, "ruin.go:90",#[⟨2,.data⟩,⟨5,.data⟩],none⟩
def qor:Oper:=⟨some 37,.load 27 (.tmp 36),27, "ruin.go:90",#[⟨6,.data⟩],none⟩
def qoq:Oper:=⟨some 38,.call { callee:=.value (.func 89),args:=#[.tmp 31,.tmp 37],argTypes:=#[27,27] },27, "ruin.go:90",#[⟨1,.data⟩,⟨7,.data⟩],none⟩
def qop:Oper:=⟨some 39,.call { callee:=.value (.func 113),args:=#[.tmp 30,.tmp 38],argTypes:=#[27,27] },27, "ruin.go:90",#[⟨0,.data⟩,⟨8,.data⟩,⟨8,.chain⟩],none⟩
def qhd:Oper:=⟨none,.store 27 (.tmp 8) (.tmp 39),0, "ruin.go:90",#[⟨9,.data⟩,⟨9,.chain⟩,⟨0,.phase⟩,⟨1,.phase⟩,⟨2,.phase⟩,⟨3,.phase⟩,⟨4,.phase⟩,⟨5,.phase⟩,⟨6,.phase⟩,⟨7,.phase⟩,⟨8,.phase⟩,⟨9,.phase⟩],none⟩
def zcr:Array Oper:=#[qoz,qoy,qox,qow,qov,qou,qot,qor,qoq,qop,qhd]
def zif (i:Nat):Nat:=match i with
 | 0=>30
 | 1=>31
 | 2=>32
 | 3=>33
 | 4=>34
 | 5=>35
 | 6=>36
 | 7=>37
 | 8=>38
 | _=>39
def zuz (s1:Bool) (x1:Int) (y1:Int) (p1:Option Addr) (s2:Bool) (x2:Int) (y2:Int) (p2:Option Addr) (s3:Bool) (x3:Int) (y3:Int) (p3:Option Addr) (bb:Nat) (bo:Nat) (bn:Nat) (bc:Nat) (m:Nat) (k:Nat) (f1:Rat) (f2:Rat) (f3:Rat) (i:Nat) (w:World) (v:Value):Prop:=match i with
 | 0=>v=.agg #[.bool s1,.int .u64 x1,.int .u64 y1,.pointer p1]
 | 1=>v=.agg #[.bool s2,.int .u64 x2,.int .u64 y2,.pointer p2]
 | 2=>v=.slice (some ⟨bb,bo,none⟩) bn bc
 | 3=>v=.int .i64 (m:Int)
 | 4=>v=.int .i64 (k:Int)
 | 5=>v=.int .i64 ((m-k:Nat):Int)
 | 6=>v=.pointer (some ⟨bb,bo+(m-k)*4,none⟩)
 | 7=>v=.agg #[.bool s3,.int .u64 x3,.int .u64 y3,.pointer p3]
 | 8=>am w v (f2*f3)
 | _=>am w v (f1+f2*f3)
theorem qcv {s1:Bool} {x1:Int} {y1:Int} {p1:Option Addr} {s2:Bool} {x2:Int} {y2:Int} {p2:Option Addr} {s3:Bool} {x3:Int} {y3:Int} {p3:Option Addr} {bb:Nat} {bo:Nat} {bn:Nat} {bc:Nat} {m:Nat} {k:Nat} {f1:Rat} {f2:Rat} {f3:Rat} {i:Nat} {w w':World} {v:Value} (h:zuz s1 x1 y1 p1 s2 x2 y2 p2 s3 x3 y3 p3 bb bo bn bc m k f1 f2 f3 i w v) (hi:i<10) (hb:But [] w w'):zuz s1 x1 y1 p1 s2 x2 y2 p2 s3 x3 y3 p3 bb bo bn bc m k f1 f2 f3 i w' v:=by(
have:i=0∨i=1∨i=2∨i=3∨i=4∨i=5∨i=6∨i=7∨i=8∨i=9:=by omega
rcases this with rfl|rfl|rfl|rfl|rfl|rfl|rfl|rfl|rfl|rfl
all_goals first | exact h | exact am.but h hb | exact aq.but h hb)
theorem qcu:∀ i j,i<10→j<10→zif i=zif j→i=j:=fun i j hi hj=>(by decide:∀ i,i<10→∀ j,j<10→zif i=zif j→i=j) i hi j hj
theorem zsu (id:Nat) (Q:Exit→Act→World→Prop) (base:Act) (W0:World) (s1:Bool) (x1:Int) (y1:Int) (p1:Option Addr) (s2:Bool) (x2:Int) (y2:Int) (p2:Option Addr) (s3:Bool) (x3:Int) (y3:Int) (p3:Option Addr) (bb:Nat) (bo:Nat) (bn:Nat) (bc:Nat) (m:Nat) (k:Nat) (f1:Rat) (f2:Rat) (f3:Rat) (gb g10:Nat) {sb:Bool} {xb yb:Int} {pb:Option Addr} (hs:39<base.tmps.size) (eb:base.eval (.tmp 8)=.pointer (some ⟨gb,0,none⟩)) (cb:P4 W0 gb sb xb yb pb) (fzb:∀ j,W0.frozen? ⟨gb,j,none⟩=false) (e10:base.eval (.tmp 10)=.pointer (some ⟨g10,0,none⟩)) (e1:base.eval (.tmp 1)=.slice (some ⟨bb,bo,none⟩) bn bc) (e7:base.eval (.tmp 7)=.int .i64 (m:Int)) (e9:base.eval (.tmp 9)=.int .i64 (k:Int))
  (hm:m≤1000000) (hkm:k≤m) (hmn:m-k<bn) (hbn:bn<1000000) (c1:P4 W0 gb s1 x1 y1 p1) (c2:P4 W0 g10 s2 x2 y2 p2) (c3:P4o W0 bb (bo+(m-k)*4) s3 x3 y3 p3)
  (MU:∀ w,But [] W0 w→Calls prog 89 #[.agg #[.bool s2,.int .u64 x2,.int .u64 y2,.pointer p2],.agg #[.bool s3,.int .u64 x3,.int .u64 y3,.pointer p3]] w fun e w'=>∃ v,e=.returned v∧am w' v (f2*f3)∧But [] w w')
  (AD:∀ w,But [] W0 w→∀ v,am w v (f2*f3)→Calls prog 113 #[.agg #[.bool s1,.int .u64 x1,.int .u64 y1,.pointer p1],v] w fun e w'=>∃ v,e=.returned v∧am w' v (f1+f2*f3)∧But [] w w')
  (hQ:∀ w1 v8 s' x' y' p',But [] W0 w1→am w1 (.agg #[.bool s',.int .u64 x',.int .u64 y',.pointer p']) (f1+f2*f3)→Q .normal (bi base [(30,.agg #[.bool s1,.int .u64 x1,.int .u64 y1,.pointer p1]),(31,.agg #[.bool s2,.int .u64 x2,.int .u64 y2,.pointer p2]),(32,.slice (some ⟨bb,bo,none⟩) bn bc),(33,.int .i64 (m:Int)),(34,.int .i64 (k:Int)),(35,.int .i64 ((m-k:Nat):Int)),(36,.pointer (some ⟨bb,bo+(m-k)*4,none⟩)),(37,.agg #[.bool s3,.int .u64 x3,.int .u64 y3,.pointer p3]),(38,v8),(39,(.agg #[.bool s',.int .u64 x',.int .u64 y',.pointer p']))]) (jc w1 gb s' x' y' p')) :
  (Code.region id zcr true).wp prog Q base W0:=by(
have hdr:∀ {w},But [] W0.drew w→But [] W0 w:=fun h=>(But.refl _ _).drew.trans' h
have lgb:gb<W0.heap.size:=ai cb.1
have hT:∀ i,i<10→zif i<base.tmps.size:=fun i hi=>by
 have h:zif i≤39:=by revert i;decide
 omega
refine ic (by kernel_rfl) (dx (by kernel_rfl)) (fun i o ho=>(zao (ops:=zcr) (by kernel_rfl) i o ho).1)
 (fun _ w=>But [] W0.drew w) (zuz s1 x1 y1 p1 s2 x2 y2 p2 s3 x3 y3 p3 bb bo bn bc m k f1 f2 f3) zif 10 rfl qcu hT (But.refl _ _)
 (fun i hi=>?_) ?_ (fun a w=>∃ w1 v8 s' x' y' p',a=bi base [(30,.agg #[.bool s1,.int .u64 x1,.int .u64 y1,.pointer p1]),(31,.agg #[.bool s2,.int .u64 x2,.int .u64 y2,.pointer p2]),(32,.slice (some ⟨bb,bo,none⟩) bn bc),(33,.int .i64 (m:Int)),(34,.int .i64 (k:Int)),(35,.int .i64 ((m-k:Nat):Int)),(36,.pointer (some ⟨bb,bo+(m-k)*4,none⟩)),(37,.agg #[.bool s3,.int .u64 x3,.int .u64 y3,.pointer p3]),(38,v8),(39,(.agg #[.bool s',.int .u64 x',.int .u64 y',.pointer p']))]∧w=jc w1 gb s' x' y' p'∧But [] W0 w1∧am w1 (.agg #[.bool s',.int .u64 x',.int .u64 y',.pointer p']) (f1+f2*f3)) ?_ ?_
·exact pg (ops:=zcr) (ps:=[(10,0),(10,1),(10,2),(10,3),(10,4),(10,5),(10,6),(10,7),(10,8),(10,9)]) (by kernel_rfl) 10 i (by
  have:i=0∨i=1∨i=2∨i=3∨i=4∨i=5∨i=6∨i=7∨i=8∨i=9:=by omega
  rcases this with rfl|rfl|rfl|rfl|rfl|rfl|rfl|rfl|rfl|rfl <;> simp)
·(
intro dn i o a w K hi ho hdi hH he hdep hK
have hD:=fun j hj=>(xu (ps:=[(5,3),(5,4),(6,2),(6,5),(7,6),(8,1),(8,7),(9,0),(9,8)]) (by kernel_rfl) ho (fun j=>dn j=true∧zuz s1 x1 y1 p1 s2 x2 y2 p2 s3 x3 y3 p3 bb bo bn bc m k f1 f2 f3 j w (a.eval (.tmp (zif j)))) hdep j hj).2
have hk:∀ v w',But [] w w'→zuz s1 x1 y1 p1 s2 x2 y2 p2 s3 x3 y3 p3 bb bo bn bc m k f1 f2 f3 i w' v→K (a.put (some (zif i)) v) w':=fun v w' hb hv=>hK v w' (hH.trans' hb) (fun j hj _ u hu=>qcv hu hj hb) hv
have eb':=(he 8 (fun j hj e=>absurd e.symm (by revert j;decide))).trans eb
have e10':=(he 10 (fun j hj e=>absurd e.symm (by revert j;decide))).trans e10
have e1':=(he 1 (fun j hj e=>absurd e.symm (by revert j;decide))).trans e1
have e7':=(he 7 (fun j hj e=>absurd e.symm (by revert j;decide))).trans e7
have e9':=(he 9 (fun j hj e=>absurd e.symm (by revert j;decide))).trans e9
have:i=0∨i=1∨i=2∨i=3∨i=4∨i=5∨i=6∨i=7∨i=8∨i=9:=by omega
rcases this with rfl|rfl|rfl|rfl|rfl|rfl|rfl|rfl|rfl|rfl
·obtain rfl:=so (show zcr[0]? =some qoz from rfl) ho
 exact al (av a w _ _ _ _ _ _ gb 0 _ _ _ _ eb' (c1.but (hdr hH) (by simp))) (hk _ _ (But.refl _ _) rfl)
·obtain rfl:=so (show zcr[1]? =some qoy from rfl) ho
 exact al (av a w _ _ _ _ _ _ g10 0 _ _ _ _ e10' (c2.but (hdr hH) (by simp))) (hk _ _ (But.refl _ _) rfl)
·obtain rfl:=so (show zcr[2]? =some qox from rfl) ho
 exact al (bz a w _ _ _ _ _ _ _ e1') (hk _ _ (But.refl _ _) rfl)
·obtain rfl:=so (show zcr[3]? =some qow from rfl) ho
 exact al (bz a w _ _ _ _ _ _ _ e7') (hk _ _ (But.refl _ _) rfl)
·obtain rfl:=so (show zcr[4]? =some qov from rfl) ho
 exact al (bz a w _ _ _ _ _ _ _ e9') (hk _ _ (But.refl _ _) rfl)
·obtain rfl:=so (show zcr[5]? =some qou from rfl) ho
 exact al (zxf a w _ _ _ _ _ _ _ m k (by omega) hkm (hD 3 (by simp)) (hD 4 (by simp))) (hk _ _ (But.refl _ _) rfl)
·obtain rfl:=so (show zcr[6]? =some qot from rfl) ho
 exact al (zey a w _ _ _ _ _ _ _ bb bo bn bc (m-k) hmn hbn (hD 2 (by simp)) (hD 5 (by simp))) (hk _ _ (But.refl _ _) rfl)
·obtain rfl:=so (show zcr[7]? =some qor from rfl) ho
 exact al (av a w _ _ _ _ _ _ bb (bo+(m-k)*4) _ _ _ _ (hD 6 (by simp)) (c3.but (hdr hH) (by simp))) (hk _ _ (But.refl _ _) rfl)
·obtain rfl:=so (show zcr[8]? =some qoq from rfl) ho
 exact ax (zca a w _ _ _ _ _ _ _ _ _ (hD 1 (by simp)) (hD 7 (by simp))) (R:=fun w' v=>am w' v (f2*f3)∧But [] w w') (MU w (hdr hH)) (fun v w' hv=>hk v w' hv.2 hv.1)
·obtain rfl:=so (show zcr[9]? =some qop from rfl) ho
 exact ax (zmp a w _ _ _ _ _ _ _ _ _ (hD 0 (by simp)) rfl) (R:=fun w' v=>am w' v (f1+f2*f3)∧But [] w w') (AD w (hdr hH) _ (hD 8 (by simp))) (fun v w' hv=>hk v w' hv.2 hv.1))
·(
intro dn o a w K ho hall h hK
obtain rfl:=so (show zcr[10]? =some qhd from rfl) ho
have eb':=(h.eval 8 (fun j hj e=>absurd e.symm (by revert j;decide))).trans eb
have cl:am w (a.eval (.tmp 39)) (f1+f2*f3):=h.has 9 (by omega) (hall 9 (by omega))
have cl':=cl
obtain⟨x',y',p',ev,-⟩:=cl.agg
rw[ev] at cl'
have ea:=h.puts hT (fun i=>match i with
 | 0=>.agg #[.bool s1,.int .u64 x1,.int .u64 y1,.pointer p1]
 | 1=>.agg #[.bool s2,.int .u64 x2,.int .u64 y2,.pointer p2]
 | 2=>.slice (some ⟨bb,bo,none⟩) bn bc
 | 3=>.int .i64 (m:Int)
 | 4=>.int .i64 (k:Int)
 | 5=>.int .i64 ((m-k:Nat):Int)
 | 6=>.pointer (some ⟨bb,bo+(m-k)*4,none⟩)
 | 7=>.agg #[.bool s3,.int .u64 x3,.int .u64 y3,.pointer p3]
 | 8=>a.eval (.tmp 38)
 | _=>.agg #[.bool (decide ((f1+f2*f3).num<0)),.int .u64 x',.int .u64 y',.pointer p']) (fun i hi=>by
 have hc:=h.has i hi (hall i hi)
 have:i=0∨i=1∨i=2∨i=3∨i=4∨i=5∨i=6∨i=7∨i=8∨i=9:=by omega
 rcases this with rfl|rfl|rfl|rfl|rfl|rfl|rfl|rfl|rfl|rfl
 all_goals first | exact ev | exact hc|rfl)
exact xh (zad a w _ _ _ _ _ gb _ x' y' p' eb' ev (cb.but (hdr h.mem) (by simp)) (fun j=>((hdr h.mem).frozen (p:=⟨gb,j,none⟩) lgb (by simp)).trans (fzb j))) (hK _ _ ⟨w,a.eval (.tmp 38),_,x',y',p',ea,rfl,hdr h.mem,cl'⟩))
·rintro a w ⟨w1,v8,s',x',y',p',rfl,rfl,h1,h2⟩
 exact hQ  w1 v8 s' x' y' p' h1 h2)
def qoo:Oper:=⟨some 54,.move (.tmp 7),63, "ruin.go:76",#[],none⟩
def qon:Oper:=⟨some 55,.move (.tmp 8),3, "ruin.go:76",#[],none⟩
def qom:Oper:=⟨some 56,.indexAddr 63 (.tmp 54) (.tmp 55),0, "ruin.go:76",#[⟨0,.data⟩,⟨1,.data⟩],none⟩
def qol:Oper:=⟨some 57,.load 46 (.tmp 56),46, "ruin.go:76",#[⟨2,.data⟩],none⟩
def qok:Oper:=⟨some 58,.move (.tmp 11),3, "ruin.go:76",#[],none⟩
def qoj:Oper:=⟨some 59,.load 27 (.tmp 9),27, "ruin.go:76",#[],none⟩
def qoi:Oper:=⟨some 60,.indexAddr 46 (.tmp 57) (.tmp 58),0, "ruin.go:76",#[⟨3,.data⟩,⟨4,.data⟩,⟨0,.phase⟩,⟨1,.phase⟩,⟨2,.phase⟩,⟨3,.phase⟩,⟨4,.phase⟩,⟨5,.phase⟩],none⟩
def qoh:Oper:=⟨none,.store 27 (.tmp 60) (.tmp 59),0, "ruin.go:76",#[⟨6,.data⟩,⟨5,.data⟩,⟨0,.phase⟩,⟨1,.phase⟩,⟨2,.phase⟩,⟨3,.phase⟩,⟨4,.phase⟩,⟨5,.phase⟩],none⟩
def zfi:Array Oper:=#[qoo,qon,qom,qol,qok,qoj,qoi,qoh]
def zie (i:Nat):Nat:=match i with
 | 0=>54
 | 1=>55
 | 2=>56
 | 3=>57
 | 4=>58
 | 5=>59
 | _=>60
def zuy (gb:Nat) (go:Nat) (gm:Nat) (N:Nat) (ro:Nat) (cn:Nat) (cc:Nat) (ka:Nat) (th:Nat) (s1:Bool) (x1:Int) (y1:Int) (p1:Option Addr) (f1:Rat) (i:Nat) (w:World) (v:Value):Prop:=match i with
 | 0=>v=.slice (some ⟨gm,0,none⟩) N N
 | 1=>v=.int .i64 (ka:Int)
 | 2=>v=.pointer (some ⟨gm,0+ka,none⟩)
 | 3=>v=.slice (some ⟨gb,ro,none⟩) cn cc
 | 4=>v=.int .i64 (th:Int)
 | 5=>am w v f1
 | _=>v=.pointer (some ⟨gb,go,none⟩)
theorem qct {gb:Nat} {go:Nat} {gm:Nat} {N:Nat} {ro:Nat} {cn:Nat} {cc:Nat} {ka:Nat} {th:Nat} {s1:Bool} {x1:Int} {y1:Int} {p1:Option Addr} {f1:Rat} {i:Nat} {w w':World} {v:Value} (h:zuy gb go gm N ro cn cc ka th s1 x1 y1 p1 f1 i w v) (hi:i<7) (hb:But [] w w'):zuy gb go gm N ro cn cc ka th s1 x1 y1 p1 f1 i w' v:=by(
have:i=0∨i=1∨i=2∨i=3∨i=4∨i=5∨i=6:=by omega
rcases this with rfl|rfl|rfl|rfl|rfl|rfl|rfl
all_goals first | exact h | exact am.but h hb | exact aq.but h hb)
theorem qcs:∀ i j,i<7→j<7→zie i=zie j→i=j:=fun i j hi hj=>(by decide:∀ i,i<7→∀ j,j<7→zie i=zie j→i=j) i hi j hj
theorem zjs (id:Nat) (Q:Exit→Act→World→Prop) (base:Act) (W0:World) (gb:Nat) (go:Nat) (gm:Nat) (N:Nat) (ro:Nat) (cn:Nat) (cc:Nat) (ka:Nat) (th:Nat) (s1:Bool) (x1:Int) (y1:Int) (p1:Option Addr) (f1:Rat) (g9:Nat) {sb:Bool} {xb yb:Int} {pb:Option Addr} (hs:60<base.tmps.size) (cb:P4o W0 gb go sb xb yb pb) (fzb:∀ j,W0.frozen? ⟨gb,j,none⟩=false) (e7:base.eval (.tmp 7)=.slice (some ⟨gm,0,none⟩) N N) (e8:base.eval (.tmp 8)=.int .i64 (ka:Int)) (e11:base.eval (.tmp 11)=.int .i64 (th:Int)) (e9:base.eval (.tmp 9)=.pointer (some ⟨g9,0,none⟩))
  (hgo:go=ro+th*4) (hka:ka<N) (hN2:N<1000000) (hth:th<cn) (hcn2:cn<1000000) (cr:W0.cell? ⟨gm,0+ka,none⟩=some (.slice (some ⟨gb,ro,none⟩) cn cc)) (c1:P4 W0 g9 s1 x1 y1 p1) (F1:am W0 (.agg #[.bool s1,.int .u64 x1,.int .u64 y1,.pointer p1]) f1)
  (hQ:∀ w1 s' x' y' p',But [] W0 w1→am w1 (.agg #[.bool s',.int .u64 x',.int .u64 y',.pointer p']) (f1)→Q .normal (bi base [(54,.slice (some ⟨gm,0,none⟩) N N),(55,.int .i64 (ka:Int)),(56,.pointer (some ⟨gm,0+ka,none⟩)),(57,.slice (some ⟨gb,ro,none⟩) cn cc),(58,.int .i64 (th:Int)),(59,(.agg #[.bool s',.int .u64 x',.int .u64 y',.pointer p'])),(60,.pointer (some ⟨gb,go,none⟩))]) (w1.setCells gb go [.bool s',.int .u64 x',.int .u64 y',.pointer p'])) :
  (Code.region id zfi true).wp prog Q base W0:=by(
have hdr:∀ {w},But [] W0.drew w→But [] W0 w:=fun h=>(But.refl _ _).drew.trans' h
have lgb:gb<W0.heap.size:=ai cb.1
have hT:∀ i,i<7→zie i<base.tmps.size:=fun i hi=>by
 have h:zie i≤60:=by revert i;decide
 omega
refine ic (by kernel_rfl) (dx (by kernel_rfl)) (fun i o ho=>(zao (ops:=zfi) (by kernel_rfl) i o ho).1)
 (fun _ w=>But [] W0.drew w) (zuy gb go gm N ro cn cc ka th s1 x1 y1 p1 f1) zie 7 rfl qcs hT (But.refl _ _)
 (fun i hi=>?_) ?_ (fun a w=>∃ w1 s' x' y' p',a=bi base [(54,.slice (some ⟨gm,0,none⟩) N N),(55,.int .i64 (ka:Int)),(56,.pointer (some ⟨gm,0+ka,none⟩)),(57,.slice (some ⟨gb,ro,none⟩) cn cc),(58,.int .i64 (th:Int)),(59,(.agg #[.bool s',.int .u64 x',.int .u64 y',.pointer p'])),(60,.pointer (some ⟨gb,go,none⟩))]∧w=w1.setCells gb go [.bool s',.int .u64 x',.int .u64 y',.pointer p']∧But [] W0 w1∧am w1 (.agg #[.bool s',.int .u64 x',.int .u64 y',.pointer p']) (f1)) ?_ ?_
·exact pg (ops:=zfi) (ps:=[(7,0),(7,1),(7,2),(7,3),(7,4),(7,5),(7,6)]) (by kernel_rfl) 7 i (by
  have:i=0∨i=1∨i=2∨i=3∨i=4∨i=5∨i=6:=by omega
  rcases this with rfl|rfl|rfl|rfl|rfl|rfl|rfl <;> simp)
·(
intro dn i o a w K hi ho hdi hH he hdep hK
have hD:=fun j hj=>(xu (ps:=[(2,0),(2,1),(3,2),(6,0),(6,1),(6,2),(6,3),(6,4),(6,5)]) (by kernel_rfl) ho (fun j=>dn j=true∧zuy gb go gm N ro cn cc ka th s1 x1 y1 p1 f1 j w (a.eval (.tmp (zie j)))) hdep j hj).2
have hk:∀ v w',But [] w w'→zuy gb go gm N ro cn cc ka th s1 x1 y1 p1 f1 i w' v→K (a.put (some (zie i)) v) w':=fun v w' hb hv=>hK v w' (hH.trans' hb) (fun j hj _ u hu=>qct hu hj hb) hv
have e7':=(he 7 (fun j hj e=>absurd e.symm (by revert j;decide))).trans e7
have e8':=(he 8 (fun j hj e=>absurd e.symm (by revert j;decide))).trans e8
have e11':=(he 11 (fun j hj e=>absurd e.symm (by revert j;decide))).trans e11
have e9':=(he 9 (fun j hj e=>absurd e.symm (by revert j;decide))).trans e9
have:i=0∨i=1∨i=2∨i=3∨i=4∨i=5∨i=6:=by omega
rcases this with rfl|rfl|rfl|rfl|rfl|rfl|rfl
·obtain rfl:=so (show zfi[0]? =some qoo from rfl) ho
 exact al (bz a w _ _ _ _ _ _ _ e7') (hk _ _ (But.refl _ _) rfl)
·obtain rfl:=so (show zfi[1]? =some qon from rfl) ho
 exact al (bz a w _ _ _ _ _ _ _ e8') (hk _ _ (But.refl _ _) rfl)
·obtain rfl:=so (show zfi[2]? =some qom from rfl) ho
 exact al (zez a w _ _ _ _ _ _ _ gm 0 N N ka hka hN2 (hD 0 (by simp)) (hD 1 (by simp))) (hk _ _ (But.refl _ _) rfl)
·obtain rfl:=so (show zfi[3]? =some qol from rfl) ho
 exact al (zgy a w _ _ _ _ _ _ gm _ _ _ _ (hD 2 (by simp)) ((hdr hH).ag cr (by simp))) (hk _ _ (But.refl _ _) rfl)
·obtain rfl:=so (show zfi[4]? =some qok from rfl) ho
 exact al (bz a w _ _ _ _ _ _ _ e11') (hk _ _ (But.refl _ _) rfl)
·obtain rfl:=so (show zfi[5]? =some qoj from rfl) ho
 exact al (av a w _ _ _ _ _ _ g9 0 _ _ _ _ e9' (c1.but (hdr hH) (by simp))) (hk _ _ (But.refl _ _) (F1.but (hdr hH)))
·obtain rfl:=so (show zfi[6]? =some qoi from rfl) ho
 refine al (zey a w _ _ _ _ _ _ _ gb ro cn cc th hth hcn2 (hD 3 (by simp)) (hD 4 (by simp))) (hk _ _ (But.refl _ _) ?_)
 show Value.pointer _=Value.pointer _
 rw[hgo])
·(
intro dn o a w K ho hall h hK
obtain rfl:=so (show zfi[7]? =some qoh from rfl) ho
have eb':a.eval (.tmp 60)=.pointer (some ⟨gb,go,none⟩):=h.has 6 (by omega) (hall 6 (by omega))
have cl:am w (a.eval (.tmp 59)) (f1):=h.has 5 (by omega) (hall 5 (by omega))
have cl':=cl
obtain⟨x',y',p',ev,-⟩:=cl.agg
rw[ev] at cl'
have ea:=h.puts hT (fun i=>match i with
 | 0=>.slice (some ⟨gm,0,none⟩) N N
 | 1=>.int .i64 (ka:Int)
 | 2=>.pointer (some ⟨gm,0+ka,none⟩)
 | 3=>.slice (some ⟨gb,ro,none⟩) cn cc
 | 4=>.int .i64 (th:Int)
 | 5=>.agg #[.bool (decide ((f1).num<0)),.int .u64 x',.int .u64 y',.pointer p']
 | _=>.pointer (some ⟨gb,go,none⟩)) (fun i hi=>by
 have hc:=h.has i hi (hall i hi)
 have:i=0∨i=1∨i=2∨i=3∨i=4∨i=5∨i=6:=by omega
 rcases this with rfl|rfl|rfl|rfl|rfl|rfl|rfl
 all_goals first | exact ev | exact hc|rfl)
exact xh (zeu a w _ _ _ _ _ gb go _ x' y' p' eb' ev (cb.but (hdr h.mem) (by simp)) (fun j=>((hdr h.mem).frozen (p:=⟨gb,j,none⟩) lgb (by simp)).trans (fzb j))) (hK _ _ ⟨w,_,x',y',p',ea,rfl,hdr h.mem,cl'⟩))
·rintro a w ⟨w1,s',x',y',p',rfl,rfl,h1,h2⟩
 exact hQ  w1 s' x' y' p' h1 h2)
def qog:Oper:=⟨some 61,.move (.tmp 7),63, "ruin.go:78",#[],none⟩
def qof:Oper:=⟨some 62,.move (.tmp 8),3, "ruin.go:78",#[],none⟩
def qoe:Oper:=⟨some 63,.indexAddr 63 (.tmp 61) (.tmp 62),0, "ruin.go:78",#[⟨0,.data⟩,⟨1,.data⟩],none⟩
def qod:Oper:=⟨some 64,.load 46 (.tmp 63),46, "ruin.go:78",#[⟨2,.data⟩],none⟩
def qoc:Oper:=⟨some 65,.move (.tmp 11),3, "ruin.go:78",#[],none⟩
def qob:Oper:=⟨some 66,.load 122 (.tmp 3),122, "ruin.go:78",#[],none⟩
def qoa:Oper:=⟨some 67,.move (.tmp 7),63, "ruin.go:78",#[],none⟩
def qnz:Oper:=⟨some 68,.move (.tmp 8),3, "ruin.go:78",#[],none⟩
def qny:Oper:=⟨some 69,.binOp .sub 3 (.tmp 68) (.const (.int .i64 1)) 3,3, "ruin.go:78",#[⟨7,.data⟩],none⟩
def qnx:Oper:=⟨some 70,.indexAddr 63 (.tmp 67) (.tmp 69),0, "ruin.go:78",#[⟨6,.data⟩,⟨8,.data⟩],none⟩
def qhc:Oper:=⟨some 71,.load 46 (.tmp 70),46, "ruin.go:78",#[⟨9,.data⟩],none⟩
def qhb:Oper:=⟨some 72,.move (.tmp 11),3, "ruin.go:78",#[],none⟩
def qha:Oper:=⟨some 73,.call { callee:=.value (.func 160),args:=#[.tmp 66,.tmp 71,.tmp 72],argTypes:=#[122,46,3] },27, "ruin.go:78",#[⟨5,.data⟩,⟨10,.data⟩,⟨11,.data⟩],none⟩
def qgz:Oper:=⟨some 74,.indexAddr 46 (.tmp 64) (.tmp 65),0, "ruin.go:78",#[⟨3,.data⟩,⟨4,.data⟩,⟨0,.phase⟩,⟨1,.phase⟩,⟨2,.phase⟩,⟨3,.phase⟩,⟨4,.phase⟩,⟨5,.phase⟩,⟨6,.phase⟩,⟨7,.phase⟩,⟨8,.phase⟩,⟨9,.phase⟩,⟨10,.phase⟩,⟨11,.phase⟩,⟨12,.phase⟩],none⟩
def qgy:Oper:=⟨none,.store 27 (.tmp 74) (.tmp 73),0, "ruin.go:78",#[⟨13,.data⟩,⟨12,.data⟩,⟨12,.chain⟩,⟨0,.phase⟩,⟨1,.phase⟩,⟨2,.phase⟩,⟨3,.phase⟩,⟨4,.phase⟩,⟨5,.phase⟩,⟨6,.phase⟩,⟨7,.phase⟩,⟨8,.phase⟩,⟨9,.phase⟩,⟨10,.phase⟩,⟨11,.phase⟩,⟨12,.phase⟩],none⟩
def zaa:Array Oper:=#[qog,qof,qoe,qod,qoc,qob,qoa,qnz,qny,qnx,qhc,qhb,qha,qgz,qgy]
def zid (i:Nat):Nat:=match i with
 | 0=>61
 | 1=>62
 | 2=>63
 | 3=>64
 | 4=>65
 | 5=>66
 | 6=>67
 | 7=>68
 | 8=>69
 | 9=>70
 | 10=>71
 | 11=>72
 | 12=>73
 | _=>74
def zux (gb:Nat) (go:Nat) (gm:Nat) (N:Nat) (ro:Nat) (rb:Nat) (cn:Nat) (cc:Nat) (ka:Nat) (kb:Nat) (th:Nat) (yi:Int) (s1:Bool) (x1:Int) (y1:Int) (p1:Option Addr) (yq:Option Addr) (yn:Nat) (yc:Nat) (f1:Rat) (i:Nat) (w:World) (v:Value):Prop:=match i with
 | 0=>v=.slice (some ⟨gm,0,none⟩) N N
 | 1=>v=.int .i64 (ka:Int)
 | 2=>v=.pointer (some ⟨gm,0+ka,none⟩)
 | 3=>v=.slice (some ⟨gb,ro,none⟩) cn cc
 | 4=>v=.int .i64 (th:Int)
 | 5=>v=.agg #[.int .i64 yi,.bool s1,.int .u64 x1,.int .u64 y1,.pointer p1,.slice yq yn yc]
 | 6=>v=.slice (some ⟨gm,0,none⟩) N N
 | 7=>v=.int .i64 (ka:Int)
 | 8=>v=.int .i64 (kb:Int)
 | 9=>v=.pointer (some ⟨gm,0+kb,none⟩)
 | 10=>v=.slice (some ⟨gb,rb,none⟩) cn cc
 | 11=>v=.int .i64 (th:Int)
 | 12=>am w v f1
 | _=>v=.pointer (some ⟨gb,go,none⟩)
theorem qcr {gb:Nat} {go:Nat} {gm:Nat} {N:Nat} {ro:Nat} {rb:Nat} {cn:Nat} {cc:Nat} {ka:Nat} {kb:Nat} {th:Nat} {yi:Int} {s1:Bool} {x1:Int} {y1:Int} {p1:Option Addr} {yq:Option Addr} {yn:Nat} {yc:Nat} {f1:Rat} {i:Nat} {w w':World} {v:Value} (h:zux gb go gm N ro rb cn cc ka kb th yi s1 x1 y1 p1 yq yn yc f1 i w v) (hi:i<14) (hb:But [] w w'):zux gb go gm N ro rb cn cc ka kb th yi s1 x1 y1 p1 yq yn yc f1 i w' v:=by(
have:i=0∨i=1∨i=2∨i=3∨i=4∨i=5∨i=6∨i=7∨i=8∨i=9∨i=10∨i=11∨i=12∨i=13:=by omega
rcases this with rfl|rfl|rfl|rfl|rfl|rfl|rfl|rfl|rfl|rfl|rfl|rfl|rfl|rfl
all_goals first | exact h | exact am.but h hb | exact aq.but h hb)
theorem qcq:∀ i j,i<14→j<14→zid i=zid j→i=j:=fun i j hi hj=>(by decide:∀ i,i<14→∀ j,j<14→zid i=zid j→i=j) i hi j hj
theorem zjr (id:Nat) (Q:Exit→Act→World→Prop) (base:Act) (W0:World) (gb:Nat) (go:Nat) (gm:Nat) (N:Nat) (ro:Nat) (rb:Nat) (cn:Nat) (cc:Nat) (ka:Nat) (kb:Nat) (th:Nat) (yi:Int) (s1:Bool) (x1:Int) (y1:Int) (p1:Option Addr) (yq:Option Addr) (yn:Nat) (yc:Nat) (f1:Rat) (g3:Nat) {sb:Bool} {xb yb':Int} {pb:Option Addr} (hs:74<base.tmps.size) (cb:P4o W0 gb go sb xb yb' pb) (fzb:∀ j,W0.frozen? ⟨gb,j,none⟩=false) (e7:base.eval (.tmp 7)=.slice (some ⟨gm,0,none⟩) N N) (e8:base.eval (.tmp 8)=.int .i64 (ka:Int)) (e11:base.eval (.tmp 11)=.int .i64 (th:Int)) (e3:base.eval (.tmp 3)=.pointer (some ⟨g3,0,none⟩))
  (hgo:go=ro+th*4) (hkb:ka=kb+1) (hka:ka<N) (hN2:N<1000000) (hth:th<cn) (hcn2:cn<1000000) (cr:W0.cell? ⟨gm,0+ka,none⟩=some (.slice (some ⟨gb,ro,none⟩) cn cc)) (cr2:W0.cell? ⟨gm,0+kb,none⟩=some (.slice (some ⟨gb,rb,none⟩) cn cc)) (yb:zbd W0 g3 yi s1 x1 y1 p1 (.slice yq yn yc))
  (AH:∀ w,But [] W0 w→Calls prog 160 #[.agg #[.int .i64 yi,.bool s1,.int .u64 x1,.int .u64 y1,.pointer p1,.slice yq yn yc],.slice (some ⟨gb,rb,none⟩) cn cc,.int .i64 (th:Int)] w fun e w'=>∃ v,e=.returned v∧am w' v f1∧But [] w w')
  (hQ:∀ w1 s' x' y' p',But [] W0 w1→am w1 (.agg #[.bool s',.int .u64 x',.int .u64 y',.pointer p']) (f1)→Q .normal (bi base [(61,.slice (some ⟨gm,0,none⟩) N N),(62,.int .i64 (ka:Int)),(63,.pointer (some ⟨gm,0+ka,none⟩)),(64,.slice (some ⟨gb,ro,none⟩) cn cc),(65,.int .i64 (th:Int)),(66,.agg #[.int .i64 yi,.bool s1,.int .u64 x1,.int .u64 y1,.pointer p1,.slice yq yn yc]),(67,.slice (some ⟨gm,0,none⟩) N N),(68,.int .i64 (ka:Int)),(69,.int .i64 (kb:Int)),(70,.pointer (some ⟨gm,0+kb,none⟩)),(71,.slice (some ⟨gb,rb,none⟩) cn cc),(72,.int .i64 (th:Int)),(73,(.agg #[.bool s',.int .u64 x',.int .u64 y',.pointer p'])),(74,.pointer (some ⟨gb,go,none⟩))]) (w1.setCells gb go [.bool s',.int .u64 x',.int .u64 y',.pointer p'])) :
  (Code.region id zaa true).wp prog Q base W0:=by(
have hdr:∀ {w},But [] W0.drew w→But [] W0 w:=fun h=>(But.refl _ _).drew.trans' h
have lgb:gb<W0.heap.size:=ai cb.1
have hT:∀ i,i<14→zid i<base.tmps.size:=fun i hi=>by
 have h:zid i≤74:=by revert i;decide
 omega
refine ic (by kernel_rfl) (dx (by kernel_rfl)) (fun i o ho=>(zao (ops:=zaa) (by kernel_rfl) i o ho).1)
 (fun _ w=>But [] W0.drew w) (zux gb go gm N ro rb cn cc ka kb th yi s1 x1 y1 p1 yq yn yc f1) zid 14 rfl qcq hT (But.refl _ _)
 (fun i hi=>?_) ?_ (fun a w=>∃ w1 s' x' y' p',a=bi base [(61,.slice (some ⟨gm,0,none⟩) N N),(62,.int .i64 (ka:Int)),(63,.pointer (some ⟨gm,0+ka,none⟩)),(64,.slice (some ⟨gb,ro,none⟩) cn cc),(65,.int .i64 (th:Int)),(66,.agg #[.int .i64 yi,.bool s1,.int .u64 x1,.int .u64 y1,.pointer p1,.slice yq yn yc]),(67,.slice (some ⟨gm,0,none⟩) N N),(68,.int .i64 (ka:Int)),(69,.int .i64 (kb:Int)),(70,.pointer (some ⟨gm,0+kb,none⟩)),(71,.slice (some ⟨gb,rb,none⟩) cn cc),(72,.int .i64 (th:Int)),(73,(.agg #[.bool s',.int .u64 x',.int .u64 y',.pointer p'])),(74,.pointer (some ⟨gb,go,none⟩))]∧w=w1.setCells gb go [.bool s',.int .u64 x',.int .u64 y',.pointer p']∧But [] W0 w1∧am w1 (.agg #[.bool s',.int .u64 x',.int .u64 y',.pointer p']) (f1)) ?_ ?_
·exact pg (ops:=zaa) (ps:=[(14,0),(14,1),(14,2),(14,3),(14,4),(14,5),(14,6),(14,7),(14,8),(14,9),(14,10),(14,11),(14,12),(14,13)]) (by kernel_rfl) 14 i (by
  have:i=0∨i=1∨i=2∨i=3∨i=4∨i=5∨i=6∨i=7∨i=8∨i=9∨i=10∨i=11∨i=12∨i=13:=by omega
  rcases this with rfl|rfl|rfl|rfl|rfl|rfl|rfl|rfl|rfl|rfl|rfl|rfl|rfl|rfl <;> simp)
·(
intro dn i o a w K hi ho hdi hH he hdep hK
have hD:=fun j hj=>(xu (ps:=[(2,0),(2,1),(3,2),(8,7),(9,6),(9,8),(10,9),(12,5),(12,10),(12,11),(13,0),(13,1),(13,2),(13,3),(13,4),(13,5),(13,6),(13,7),(13,8),(13,9),(13,10),(13,11),(13,12)]) (by kernel_rfl) ho (fun j=>dn j=true∧zux gb go gm N ro rb cn cc ka kb th yi s1 x1 y1 p1 yq yn yc f1 j w (a.eval (.tmp (zid j)))) hdep j hj).2
have hk:∀ v w',But [] w w'→zux gb go gm N ro rb cn cc ka kb th yi s1 x1 y1 p1 yq yn yc f1 i w' v→K (a.put (some (zid i)) v) w':=fun v w' hb hv=>hK v w' (hH.trans' hb) (fun j hj _ u hu=>qcr hu hj hb) hv
have e7':=(he 7 (fun j hj e=>absurd e.symm (by revert j;decide))).trans e7
have e8':=(he 8 (fun j hj e=>absurd e.symm (by revert j;decide))).trans e8
have e11':=(he 11 (fun j hj e=>absurd e.symm (by revert j;decide))).trans e11
have e3':=(he 3 (fun j hj e=>absurd e.symm (by revert j;decide))).trans e3
have:i=0∨i=1∨i=2∨i=3∨i=4∨i=5∨i=6∨i=7∨i=8∨i=9∨i=10∨i=11∨i=12∨i=13:=by omega
rcases this with rfl|rfl|rfl|rfl|rfl|rfl|rfl|rfl|rfl|rfl|rfl|rfl|rfl|rfl
·obtain rfl:=so (show zaa[0]? =some qog from rfl) ho
 exact al (bz a w _ _ _ _ _ _ _ e7') (hk _ _ (But.refl _ _) rfl)
·obtain rfl:=so (show zaa[1]? =some qof from rfl) ho
 exact al (bz a w _ _ _ _ _ _ _ e8') (hk _ _ (But.refl _ _) rfl)
·obtain rfl:=so (show zaa[2]? =some qoe from rfl) ho
 exact al (zez a w _ _ _ _ _ _ _ gm 0 N N ka hka hN2 (hD 0 (by simp)) (hD 1 (by simp))) (hk _ _ (But.refl _ _) rfl)
·obtain rfl:=so (show zaa[3]? =some qod from rfl) ho
 exact al (zgy a w _ _ _ _ _ _ gm _ _ _ _ (hD 2 (by simp)) ((hdr hH).ag cr (by simp))) (hk _ _ (But.refl _ _) rfl)
·obtain rfl:=so (show zaa[4]? =some qoc from rfl) ho
 exact al (bz a w _ _ _ _ _ _ _ e11') (hk _ _ (But.refl _ _) rfl)
·obtain rfl:=so (show zaa[5]? =some qob from rfl) ho
 exact al (zrd a w _ _ _ _ _ _ g3 _ _ _ _ _ _ _ _ e3' (yb.but (hdr hH) (by simp))) (hk _ _ (But.refl _ _) rfl)
·obtain rfl:=so (show zaa[6]? =some qoa from rfl) ho
 exact al (bz a w _ _ _ _ _ _ _ e7') (hk _ _ (But.refl _ _) rfl)
·obtain rfl:=so (show zaa[7]? =some qnz from rfl) ho
 exact al (bz a w _ _ _ _ _ _ _ e8') (hk _ _ (But.refl _ _) rfl)
·obtain rfl:=so (show zaa[8]? =some qny from rfl) ho
 exact al (ztt a w _ _ _ _ _ _ kb (by omega) (Eq.trans (hD 7 (by simp)) (by rw[hkb]))) (hk _ _ (But.refl _ _) rfl)
·obtain rfl:=so (show zaa[9]? =some qnx from rfl) ho
 exact al (zez a w _ _ _ _ _ _ _ gm 0 N N kb (by omega) hN2 (hD 6 (by simp)) (hD 8 (by simp))) (hk _ _ (But.refl _ _) rfl)
·obtain rfl:=so (show zaa[10]? =some qhc from rfl) ho
 exact al (zgy a w _ _ _ _ _ _ gm _ _ _ _ (hD 9 (by simp)) ((hdr hH).ag cr2 (by simp))) (hk _ _ (But.refl _ _) rfl)
·obtain rfl:=so (show zaa[11]? =some qhb from rfl) ho
 exact al (bz a w _ _ _ _ _ _ _ e11') (hk _ _ (But.refl _ _) rfl)
·obtain rfl:=so (show zaa[12]? =some qha from rfl) ho
 exact ax (zxl a w _ _ _ _ _ _ _ _ _ _ _ (hD 5 (by simp)) (hD 10 (by simp)) (hD 11 (by simp))) (R:=fun w' v=>am w' v (f1)∧But [] w w') (AH w (hdr hH)) (fun v w' hv=>hk v w' hv.2 hv.1)
·obtain rfl:=so (show zaa[13]? =some qgz from rfl) ho
 refine al (zey a w _ _ _ _ _ _ _ gb ro cn cc th hth hcn2 (hD 3 (by simp)) (hD 4 (by simp))) (hk _ _ (But.refl _ _) ?_)
 show Value.pointer _=Value.pointer _
 rw[hgo])
·(
intro dn o a w K ho hall h hK
obtain rfl:=so (show zaa[14]? =some qgy from rfl) ho
have eb':a.eval (.tmp 74)=.pointer (some ⟨gb,go,none⟩):=h.has 13 (by omega) (hall 13 (by omega))
have cl:am w (a.eval (.tmp 73)) (f1):=h.has 12 (by omega) (hall 12 (by omega))
have cl':=cl
obtain⟨x',y',p',ev,-⟩:=cl.agg
rw[ev] at cl'
have ea:=h.puts hT (fun i=>match i with
 | 0=>.slice (some ⟨gm,0,none⟩) N N
 | 1=>.int .i64 (ka:Int)
 | 2=>.pointer (some ⟨gm,0+ka,none⟩)
 | 3=>.slice (some ⟨gb,ro,none⟩) cn cc
 | 4=>.int .i64 (th:Int)
 | 5=>.agg #[.int .i64 yi,.bool s1,.int .u64 x1,.int .u64 y1,.pointer p1,.slice yq yn yc]
 | 6=>.slice (some ⟨gm,0,none⟩) N N
 | 7=>.int .i64 (ka:Int)
 | 8=>.int .i64 (kb:Int)
 | 9=>.pointer (some ⟨gm,0+kb,none⟩)
 | 10=>.slice (some ⟨gb,rb,none⟩) cn cc
 | 11=>.int .i64 (th:Int)
 | 12=>.agg #[.bool (decide ((f1).num<0)),.int .u64 x',.int .u64 y',.pointer p']
 | _=>.pointer (some ⟨gb,go,none⟩)) (fun i hi=>by
 have hc:=h.has i hi (hall i hi)
 have:i=0∨i=1∨i=2∨i=3∨i=4∨i=5∨i=6∨i=7∨i=8∨i=9∨i=10∨i=11∨i=12∨i=13:=by omega
 rcases this with rfl|rfl|rfl|rfl|rfl|rfl|rfl|rfl|rfl|rfl|rfl|rfl|rfl|rfl
 all_goals first | exact ev | exact hc|rfl)
exact xh (zeu a w _ _ _ _ _ gb go _ x' y' p' eb' ev (cb.but (hdr h.mem) (by simp)) (fun j=>((hdr h.mem).frozen (p:=⟨gb,j,none⟩) lgb (by simp)).trans (fzb j))) (hK _ _ ⟨w,_,x',y',p',ea,rfl,hdr h.mem,cl'⟩))
·rintro a w ⟨w1,s',x',y',p',rfl,rfl,h1,h2⟩
 exact hQ  w1 s' x' y' p' h1 h2)
theorem zpj (v vu:Value) (fs:List Rat) (u:Rat) (w:World) (hv:aq w v fs) (hu:am w vu u) (hn:fs.length≤100000) (lf:∀ f ∈ fs,Len f 1000000) (lu:Len u 1000000) :
  Calls prog 159 #[v,vu] w fun e w'=>∃ g,e=.returned (.slice (some ⟨g,0,none⟩) fs.length fs.length)∧zbi w' g fs.length fs.length (fun i=>fs[i]?.getD 0*u)∧w.heap.size≤g∧g<w'.heap.size∧But [] w w':=by(
obtain⟨x1,y1,p1,rfl,-⟩:=id hu.agg
generalize hsf:decide (u.num<0)=s1 at *
clear hsf
obtain⟨q,cap,rfl,hcap,-⟩:=id hv
obtain⟨n,hN⟩:∃ n,n=fs.length:=⟨_,rfl⟩
rw[← hN] at hn hcap ⊢
rw[← hN] at hv
have HV:=af hv
have HU:=af hu
have HN:=af hN
have hmk:=fun wx=>zje wx n (by omega)
clear hv hu hN
obtain⟨A,hA⟩:∃ A,A=w.alloc (.cells #[.bool s1,.int .u64 x1,.int .u64 y1,.pointer p1] 27):=⟨_,rfl⟩
have bA:But [] w A:=by rw[hA];exact (But.refl _ _).alloc _
have sA:A.heap.size=w.heap.size+1:=by rw[hA];simp
have cA:P4 A w.heap.size s1 x1 y1 p1:=by rw[hA];exact⟨by simp,by simp,by simp,by simp⟩
obtain⟨U,hU⟩:∃ U,U=(w.alloc (.cells #[.bool s1,.int .u64 x1,.int .u64 y1,.pointer p1] 27)).alloc (.cells (madeCells #[.bool false,.int .u64 0,.int .u64 0,.pointer none] (n*4)) 27):=⟨_,rfl⟩
have bU:But [] A U:=by rw[hU,← hA];exact (But.refl _ _).alloc _
have rU:zbi U A.heap.size n 0 (fun i=>fs[i]?.getD 0*u):=by rw[hU,← hA];exact zbi.made A n _
have lU:A.heap.size<U.heap.size:=by rw[hU,← hA];simp
obtain⟨G,hG⟩:∃ G,G=w.heap.size+1:=⟨_,rfl⟩
obtain⟨B,hB⟩:∃ B,B=w.heap.size:=⟨_,rfl⟩
have hGA:G=A.heap.size:=by omega
have I0:Hid (zbi U G n 0 (fun i=>fs[i]?.getD 0*u)∧P4 U B s1 x1 y1 p1∧aq U (.slice q n cap) fs∧am U (.agg #[.bool s1,.int .u64 x1,.int .u64 y1,.pointer p1]) u∧G<U.heap.size∧But [] w U) :=
 ⟨by rw[hGA];exact rU,by rw[hB];exact cA.but bU (by simp),((ae HV).but bA).but bU,((ae HU).but bA).but bU,by rw[hGA];exact lU,bA.trans' bU⟩
have hGB:B<G:=by omega
have hwB:w.heap.size≤B:=by omega
clear bU rU lU bA sA cA hGA hA
go_enter func159,ntmps159
go_wp2
rw[← hU]
try rw[← hG]
rw[← hB]
clear hU hmk HU
have HB:=af hB
have HW:=af hwB
clear hB hG hwB
go_loopw [13] (fun i wr=>∃ k:Nat,k≤n∧i=.int .i64 (k:Int)∧Hid (zbi wr G n k (fun i=>fs[i]?.getD 0*u)∧P4 wr B s1 x1 y1 p1∧aq wr (.slice q n cap) fs∧am wr (.agg #[.bool s1,.int .u64 x1,.int .u64 y1,.pointer p1]) u∧G<wr.heap.size∧But [] w wr)) (fun i _=>n-(intOf i).toNat)
case atStart=>exact⟨0,Nat.zero_le _,rfl,ae I0⟩
case round =>(
obtain⟨k,hk,rfl,HI⟩:=hrel
rename World=>wr
clear I0
by_cases hlt:k<n
·(
obtain⟨hrow,hbx,hfs,hfu,hG2,hb⟩:=ae HI
have hkr:k<fs.length:=by have:=ae HN;omega
rcases hfs.open with ⟨er,-⟩|⟨-,rb,roff,rcap2,er,-,-⟩
·rw[er] at hkr
 simp at hkr
simp only[Value.slice.injEq] at er
obtain⟨rfl,-,rfl⟩:=er
obtain⟨sr,xr,yr,pr,⟨r0,r1,r2,r3⟩,hfr⟩:=hfs.get k hlt
have lrk:Len (fs[k]?.getD 0) 1000000:=by rw[List.getElem?_eq_getElem hkr];exact lf _ (List.getElem_mem hkr)
obtain⟨b0,b1,b2,b3⟩:=hbx
have MU:=af (fun W (h:But [] wr W)=>znq (j4 _ _ _ _ W (hfr.but h) (hfu.but h) lrk lu))
have BA:Hid (But [] wr (wr.alloc (.cells #[.bool sr,.int .u64 xr,.int .u64 yr,.pointer pr] 27))):=(But.refl _ _).alloc _
have lB:B<wr.heap.size:=ai b0
clear hfr lrk hrow hfs hfu hb
go_wp2_with fail
refine (ae MU _ (ae BA)).mono ?_
rintro e w3 ⟨s3,x3,y3,p3,rfl,hv3,hb3⟩
have B3:Hid (But [] wr w3):=(ae BA).trans' hb3
have HV3:=af hv3
have hrow3:=(ae HI).1.but (ae B3) hG2
have R3:=af hrow3
have pf:=hrow3.loose
obtain⟨k0,k1,k2,k3⟩:=hrow3.blank k (Nat.le_refl _) hlt
clear hv3 hb3 MU BA r0 r1 r2 r3 b0 b1 b2 b3 hrow3
go_wp2
have hS:=br w3 G [.bool s3,.int .u64 x3,.int .u64 y3,.pointer p3] (k*4)
obtain⟨cb,hcb⟩:=(ae R3).bool (by omega)
have hc2:∀ g ∈ [G],∃ s,w3.cell? ⟨g,0,none⟩=some (.bool s):=fun g hg=>by simp at hg;subst hg;exact⟨_,hcb⟩
have lw:w.heap.size≤G:=by have:=ae HW;omega
refine⟨⟨k+1,by omega,by go_num,(ae R3).next hlt s3 x3 y3 p3 (ae HV3),((ae HI).2.1.but (ae B3) (by simp)).but hS (by simp;omega),(ae HV).behind ((ae HI).2.2.1.but (ae B3)) hS lw ⟨_,hcb⟩,((ae HI).2.2.2.1.but (ae B3)).beside hS hc2,Nat.lt_of_lt_of_le (Nat.lt_of_lt_of_le hG2 (ae B3).size) hS.size,((ae HI).2.2.2.2.2.trans' (ae B3)).trans hS (fun x hx=>by simp at hx;subst hx;exact .inr lw)⟩,by simp[intOf];omega⟩)
·obtain rfl:k=n:=by omega
 go_wp2
 go_ret
 exact⟨G,rfl,(ae HI).1,by have:=ae HW;omega,(ae HI).2.2.2.2.1,(ae HI).2.2.2.2.2⟩))
structure oh (w:World) (g n:Nat) (F:Nat→Rat):Prop where
 told:∀ j,j<n→zdh w g (j*4) (F j)
 loose:∀ o,w.frozen? ⟨g,o,none⟩=false
theorem oh.made (w:World) (n:Nat):oh (w.alloc (.cells (madeCells #[Value.bool false,.int .u64 0,.int .u64 0,.pointer none] (n*4)) 27)) w.heap.size n (fun _=>0) :=
 ⟨fun j hj=>⟨false,0,0,none,(zbi.made w n (fun _=>0)).blank j (Nat.zero_le _) hj,dz _⟩,(zbi.made w n (fun _=>0)).loose⟩
theorem oh.but {w w':World} {g n:Nat} {F:Nat→Rat} (h:oh w g n F) (hb:But [] w w') (hg:g<w.heap.size):oh w' g n F :=
 ⟨fun j hj=>(h.told j hj).but hb,fun o=>(hb.frozen (p:=⟨g,o,none⟩) hg (by simp)).trans (h.loose o)⟩
theorem oh.bool {w:World} {g n:Nat} {F:Nat→Rat} (h:oh w g n F) (h0:0<n):∃ s,w.cell? ⟨g,0,none⟩=some (.bool s):=by(
obtain⟨s,x,y,p,a,-⟩:=h.told 0 h0
rw[Nat.zero_mul] at a
exact⟨_,a.1⟩)
def zxc (F:Nat→Rat) (t:Nat) (v:Rat):Nat→Rat:=fun j=>if j=t then v else F j
theorem oh.set {w:World} {g n i:Nat} {F:Nat→Rat} (h:oh w g n F) (hi:i<n) (s1:Bool) (x1 y1:Int) (p1:Option Addr) (v:Rat) (h1:am w (.agg #[.bool s1,.int .u64 x1,.int .u64 y1,.pointer p1]) v) :
  oh (w.setCells g (i*4) [.bool s1,.int .u64 x1,.int .u64 y1,.pointer p1]) g n (zxc F i v):=by(
obtain⟨c,hc⟩:=h.bool (by omega)
obtain⟨s0,x0,y0,p0,a1,-⟩:=h.told i hi
have hb:=br w g [.bool s1,.int .u64 x1,.int .u64 y1,.pointer p1] (i*4)
have some4:∀ k,k<4→(w.cell? ⟨g,i*4+k,none⟩).isSome=true:=fun k hk=>by
 have:k=0∨k=1∨k=2∨k=3:=by omega
 rcases this with rfl|rfl|rfl|rfl
 ·rw[show i*4+0=i*4 from rfl,a1.1];rfl
 ·rw[a1.2.1];rfl
 ·rw[a1.2.2.1];rfl
 ·rw[a1.2.2.2];rfl
have hin:∀ k (hk:k<4),(w.setCells g (i*4) [.bool s1,.int .u64 x1,.int .u64 y1,.pointer p1]).cell? ⟨g,i*4+k,none⟩=some ([Value.bool s1,.int .u64 x1,.int .u64 y1,.pointer p1][k]'hk):=fun k hk =>
 World.cell?_setCells_in g [.bool s1,.int .u64 x1,.int .u64 y1,.pointer p1] (i*4) w (fun j hj=>some4 j hj) k hk
have hout:∀ o,o<i*4∨i*4+4≤o→(w.setCells g (i*4) [.bool s1,.int .u64 x1,.int .u64 y1,.pointer p1]).cell? ⟨g,o,none⟩=w.cell? ⟨g,o,none⟩:=fun o ho=>World.cell?_setCells_out g _ (i*4) w _ (fun _ _=>by simp;omega)
have keep:∀ o s x y p,o+4≤i*4∨i*4+4≤o→P4o w g o s x y p→P4o (w.setCells g (i*4) [.bool s1,.int .u64 x1,.int .u64 y1,.pointer p1]) g o s x y p:=fun o s x y p ho hp=>⟨(hout o (by omega)).trans hp.1,(hout (o+1) (by omega)).trans hp.2.1,(hout (o+2) (by omega)).trans hp.2.2.1,(hout (o+3) (by omega)).trans hp.2.2.2⟩
have hfr:∀ {v f},am w v f→am (w.setCells g (i*4) [.bool s1,.int .u64 x1,.int .u64 y1,.pointer p1]) v f:=fun hf=>hf.over hc hb
refine⟨fun j hj=>?_,fun o=>by rw[World.frozen?_setCells];exact h.loose o⟩
unfold zxc
by_cases e:j=i
·subst e
 rw[if_pos rfl]
 exact⟨s1,x1,y1,p1,⟨hin 0 (by omega),hin 1 (by omega),hin 2 (by omega),hin 3 (by omega)⟩,hfr h1⟩
·rw[if_neg e]
 obtain⟨t1,u1,v1,q1,b1,f1⟩:=h.told j hj
 exact⟨t1,u1,v1,q1,keep _ _ _ _ _ (by omega) b1,hfr f1⟩)
theorem oh.znr {w:World} {g n:Nat} {F:Nat→Rat} (h:oh w g n F):aq w (.slice (some ⟨g,0,none⟩) n n) ((List.range n).map F) :=
 zbi.znr ⟨fun j h1 h2=>by omega,h.told,h.loose⟩
end Go.Proofs.YtagmkkiagjmimaaGreatDoor
