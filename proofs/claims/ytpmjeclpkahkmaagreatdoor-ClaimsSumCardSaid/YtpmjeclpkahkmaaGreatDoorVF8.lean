/- A whole number as a fraction, as the Go  -/
import Derived.Test.YtpmjeclpkahkmaaGreatDoorVF11
import Derived.Test.YtpmjeclpkahkmaaGreatDoorVHD
import Derived.Test.YtpmjeclpkahkmaaGreatDoorVT1
namespace Go.Proofs.YtpmjeclpkahkmaaGreatDoor
set_option linter.unusedVariables false
open Go.Proofs.Tryz
open Go.RowKit
set_option maxHeartbeats 8000000
set_option maxRecDepth 100000
theorem zzl (x:Int) (h1:-9223372036854775808≤x) (h2:x<9223372036854775808) (w:World) :
  Calls prog 114 #[.int .i64 x] w fun e w'=>e=.returned (.agg #[.bool (decide (x<0)),.int .u64 ((x.natAbs:Nat):Int),.int .u64 (((1:Nat):Int)-1),.pointer none])∧But [] w w':=by(
obtain⟨s,hs⟩:∃ s,s=decide (x<0):=⟨_,rfl⟩
obtain⟨n,hn⟩:∃ n,n=x.natAbs:=⟨_,rfl⟩
rw[← hs,← hn]
have HS:=af hs
have HN:=af hn
go_enter func114,ntmps114
go_wp2_with fail
refine (zmo x h1 h2 _).mono ?_
rintro e w1 ⟨rfl,hw⟩
obtain rfl:=hw.symm
go_wp2
exact bodyPost_ret (v:=.agg #[.bool (decide (x<0)),.int .u64 ((x.natAbs:Nat):Int),.int .u64 0,.pointer none]) (by simp[results,results114,go_sem]) rfl ⟨by rw[ae HS,ae HN];rfl,(But.refl _ _).alloc _⟩)
def zbw (s:Bool) (p q:Nat):ByteArray:=(if s then ⟨#[45]⟩++⟨(Lib.decDigits p).toArray⟩ else ⟨(Lib.decDigits p).toArray⟩)++(if q=1 then ⟨#[]⟩ else ⟨#[47]⟩++⟨(Lib.decDigits q).toArray⟩)
theorem zgu (u:Nat) (h:(wd 18446744073709551616 u).length≤1000000):(Lib.decDigits u).length≤20000000:=by(
rcases Nat.eq_zero_or_pos u with rfl | h0
·rw[Lib.decDigits_length,Lib.nDigits_small (by omega)];omega
·rw[← zib u h0,List.length_reverse];exact zyz u 1000000 h)
theorem qnb (t:ByteArray):t++⟨#[]⟩=t:=by
 cases t;simp[ByteArray.ext_iff]
theorem ziw (v:Value) (f:Rat) (w:World) (hf:aq w v f) (hL:Len f 1000000) (htab:Lib.TabIs prog w "internal/strconv.uint64pow10" .u64 Lib.pow10Tab) (t:ByteArray) (ht:Hid (t=zbw (decide (f.num<0)) f.num.natAbs f.den)) :
  Calls prog 12 #[v] w fun e w'=>e=.returned (.string t)∧But [] w w':=by(
have hq0:=den_pos f
obtain⟨hN,hD⟩:=hL
obtain⟨tp,htp⟩:∃ tp:ByteArray,tp=⟨(Lib.decDigits f.num.natAbs).toArray⟩:=⟨_,rfl⟩
obtain⟨tq,htq⟩:∃ tq:ByteArray,tq=⟨(Lib.decDigits f.den).toArray⟩:=⟨_,rfl⟩
have sp:tp.size≤20000000:=by rw[htp];exact zgu _ hN
have sq:tq.size≤20000000:=by rw[htq];exact zgu _ hD
have HNU:Hid (∀ W,But [] w W→Calls prog 86 #[v] W fun e w'=>∃ v1 v2,e=.returned (.tuple #[v1,v2])∧Sl .u64 w' v1 (wd 18446744073709551616 f.num.natAbs)∧Sl .u64 w' v2 (wd 18446744073709551616 f.den)∧But [] W w'):=fun W hb=>dh v f W (hf.but hb)
have T1:Hid (∀ W v1,But [] w W→Sl .u64 W v1 (wd 18446744073709551616 f.num.natAbs)→Calls prog 87 #[v1] W fun e w'=>e=.returned (.string tp)∧But [] W w'):=fun W v1 hb h=>zkx v1 _ W h hN (TabIs.but htab hb) tp htp
have T2:Hid (∀ W v1,But [] w W→Sl .u64 W v1 (wd 18446744073709551616 f.den)→Calls prog 87 #[v1] W fun e w'=>e=.returned (.string tq)∧But [] W w'):=fun W v1 hb h=>zkx v1 _ W h hD (TabIs.but htab hb) tq htq
have HT:Hid (t=(if decide (f.num<0) then ⟨#[45]⟩++tp else tp)++(if f.den=1 then ⟨#[]⟩ else ⟨#[47]⟩++tq)):=by show _=_;rw[ae ht,zbw,htp,htq]
have ONE:Hid (∀ W v1 (r:Bool),Hid (r=decide (f.den=1))→Sl .u64 W v1 (wd 18446744073709551616 f.den)→Calls prog 88 #[v1] W fun e w'=>e=.returned (.bool r)∧w'=W):=fun W v1 r hr h=>mo v1 _ W h (by omega) r hr
obtain⟨x,y,p,rfl,-⟩:=hf.agg
have hbw:But [] w (w.alloc (.cells #[.bool (decide (f.num<0)),.int .u64 x,.int .u64 y,.pointer p] 27)):=(But.refl _ _).alloc _
clear htp htq ht htab hN hD hf
generalize hs:decide (f.num<0)=s at *
clear hs
go_enter func12,ntmps12
go_wp2_with fail
refine (ae HNU _ hbw).mono ?_
rintro e w1 ⟨v1,v2,rfl,hv1,hv2,hb1⟩
have B1:=af (hbw.trans' hb1)
have HV1:=af hv1
have HV2:=af hv2
have c0:=hb1.ag (show (w.alloc (.cells #[.bool s,.int .u64 x,.int .u64 y,.pointer p] 27)).cell? ⟨w.heap.size,0,none⟩=some (.bool s) by simp) (by simp)
clear hv1 hv2 hb1
go_wp2_with fail
refine (ae T1 _ v1 (ae B1) (ae HV1)).mono ?_
rintro e w2 ⟨rfl,hb2⟩
have d0:=hb2.ag c0 (by simp)
have B2:Hid (But [] w w2):=(ae B1).trans' hb2
have HV3:=af ((ae HV2).ah hb2)
clear hb2 c0 HV2 hbw
cases s
all_goals(
go_wp2_with fail
by_cases hq1:f.den=1
·(
refine (ae ONE _ v2 true (by show true=_;simp[hq1]) (ae HV3)).mono ?_
rintro e w3 ⟨rfl,hw⟩
obtain rfl:=hw.symm
clear hw
go_wp2
go_ret
exact⟨by rw[ae HT,if_pos hq1,qnb];rfl,ae B2⟩)
·(
refine (ae ONE _ v2 false (by show false=_;simp[hq1]) (ae HV3)).mono ?_
rintro e w3 ⟨rfl,hw⟩
obtain rfl:=hw.symm
clear hw
go_wp2_with fail
refine (ae T2 _ v2 (ae B2) (ae HV3)).mono ?_
rintro e w3 ⟨rfl,hb3⟩
go_wp2
go_ret
exact⟨by rw[ae HT,if_neg hq1];rfl,(ae B2).trans' hb3⟩)))
theorem qmo (s:Bool) (p q:Nat) (hq:0<q) (hc:Nat.Coprime p q):∃ f:Rat,f.num=sgn s p∧f.den=q :=
 ⟨⟨sgn s p,q,by omega,by rw[jk];exact hc⟩,rfl,rfl⟩
theorem qjb (x y:Nat) (hy:0<y):Nat.Coprime (x/Nat.gcd x y) (y/Nat.gcd x y):=Nat.coprime_div_gcd_div_gcd (Nat.gcd_pos_of_pos_right _ hy)
theorem znl {f:Rat} {m n:Nat} (h1:f.num.natAbs < 18446744073709551616^m) (h2:f.den < 18446744073709551616^n) (k:Nat) (hm:m≤k) (hn:n≤k):Len f k :=
 ⟨Nat.le_trans (aj (by omega) _ _ h1) hm,Nat.le_trans (aj (by omega) _ _ h2) hn⟩
theorem Len.mono {f:Rat} {m n:Nat} (h:Len f m) (hn:m≤n):Len f n:=⟨Nat.le_trans h.1 hn,Nat.le_trans h.2 hn⟩
theorem Len.lt {f:Rat} {m:Nat} (h:Len f m):f.num.natAbs < 18446744073709551616^m∧f.den < 18446744073709551616^m:=⟨ak (by omega) _ _ h.1,ak (by omega) _ _ h.2⟩
theorem zbv {f g:Rat} {m n:Nat} (h1:Len f m) (h2:Len g n) (k:Nat) (hk:m+n≤k):Len (f*g) k:=by(
obtain⟨a1,a2⟩:=h1.lt
obtain⟨c1,c2⟩:=h2.lt
obtain⟨e1,e2⟩:=zrk f g _ _ rfl rfl
refine znl (m:=m+n) (n:=m+n) ?_ ?_ k hk hk
·rw[e1,jk,Nat.pow_add]
 exact Nat.mul_lt_mul'' (Nat.lt_of_le_of_lt (Nat.div_le_self _ _) a1) (Nat.lt_of_le_of_lt (Nat.div_le_self _ _) c1)
·rw[e2,Nat.pow_add]
 exact Nat.mul_lt_mul'' (Nat.lt_of_le_of_lt (Nat.div_le_self _ _) a2) (Nat.lt_of_le_of_lt (Nat.div_le_self _ _) c2))
theorem zyq {f g:Rat} {m n:Nat} (h1:Len f m) (h2:Len g n) (k:Nat) (hk:m+n+1≤k):Len (f+g) k:=by(
obtain⟨a1,a2⟩:=h1.lt
obtain⟨c1,c2⟩:=h2.lt
obtain⟨M,s,hM⟩:∃ (M:Nat) (s:Bool),f.num*(g.den/Nat.gcd f.den g.den:Nat)+g.num*(f.den/Nat.gcd f.den g.den:Nat)=sgn s M:=by
 generalize f.num*(g.den/Nat.gcd f.den g.den:Nat)+g.num*(f.den/Nat.gcd f.den g.den:Nat)=z
 by_cases hz:z<0
 ·exact⟨z.natAbs,true,by simp[sgn];omega⟩
 ·exact⟨z.natAbs,false,by simp[sgn];omega⟩
obtain⟨e1,e2⟩:=zsa f g s M _ _ rfl rfl hM
have hMl:M < 18446744073709551616^(m+n+1):=by
 have h3:M≤f.num.natAbs*(g.den/Nat.gcd f.den g.den)+g.num.natAbs*(f.den/Nat.gcd f.den g.den):=by
  rw[← jk s M,← hM]
  refine Nat.le_trans (Int.natAbs_add_le _ _) ?_
  rw[Int.natAbs_mul,Int.natAbs_mul,Int.natAbs_natCast,Int.natAbs_natCast]
  exact Nat.le_refl _
 have h4:f.num.natAbs*(g.den/Nat.gcd f.den g.den) < 18446744073709551616^m * 18446744073709551616^n:=Nat.mul_lt_mul'' a1 (Nat.lt_of_le_of_lt (Nat.div_le_self _ _) c2)
 have h5:g.num.natAbs*(f.den/Nat.gcd f.den g.den) < 18446744073709551616^n * 18446744073709551616^m:=Nat.mul_lt_mul'' c1 (Nat.lt_of_le_of_lt (Nat.div_le_self _ _) a2)
 rw[Nat.mul_comm (18446744073709551616^n)] at h5
 rw[Nat.pow_succ,Nat.pow_add]
 generalize 18446744073709551616^m * 18446744073709551616^n=P at *
 omega
refine znl (m:=m+n+1) (n:=m+n) ?_ ?_ k hk (by omega)
·rw[e1,jk];exact Nat.lt_of_le_of_lt (Nat.div_le_self _ _) hMl
·rw[e2,Nat.pow_add]
 exact Nat.mul_lt_mul'' (Nat.lt_of_le_of_lt (Nat.div_le_self _ _) a2) (Nat.lt_of_le_of_lt (Nat.div_le_self _ _) c2))
theorem qms (x y:Int) (p q k:Nat) (hx:x.natAbs=p*k) (hy:y.natAbs=q*k):sgn (decide (x<0) != decide (y<0)) p*y=x*q:=by(
have ex:x=sgn (decide (x<0)) (p*k):=by
 by_cases h:x<0
 ·simp[sgn,h];omega
 ·simp[sgn,h];omega
have ey:y=sgn (decide (y<0)) (q*k):=by
 by_cases h:y<0
 ·simp[sgn,h];omega
 ·simp[sgn,h];omega
generalize decide (x<0)=a at *
generalize decide (y<0)=b at *
rw[ex,ey]
cases a <;> cases b <;> simp[sgn,Int.natCast_mul] <;> grind)
theorem zpy (x y:Int) (hx1:-9223372036854775808≤x) (hx2:x<9223372036854775808) (hy1:-9223372036854775808≤y) (hy2:y<9223372036854775808) (hy0:y≠0) :
  ∃ (f:Rat) (r:Bool) (p q:Int),Len f 1∧f.num*y=x*f.den∧(∀ W,aq W (.agg #[.bool r,.int .u64 p,.int .u64 q,.pointer none]) f)∧∀ W,Calls prog 84 #[.int .i64 x,.int .i64 y] W fun e w'=>e=.returned (.tuple #[.agg #[.bool r,.int .u64 p,.int .u64 q,.pointer none],.nilIface])∧But [] W w':=by(
have hyp:0<y.natAbs:=by omega
have hg:0<Nat.gcd x.natAbs y.natAbs:=Nat.gcd_pos_of_pos_right _ hyp
have hd1:=Nat.div_mul_cancel (Nat.gcd_dvd_left x.natAbs y.natAbs)
have hd2:=Nat.div_mul_cancel (Nat.gcd_dvd_right x.natAbs y.natAbs)
have hq0:0<y.natAbs/Nat.gcd x.natAbs y.natAbs:=Nat.div_pos (Nat.le_of_dvd hyp (Nat.gcd_dvd_right _ _)) hg
have hpB:x.natAbs/Nat.gcd x.natAbs y.natAbs < 18446744073709551616:=Nat.lt_of_le_of_lt (Nat.div_le_self _ _) (by omega)
have hqB:y.natAbs/Nat.gcd x.natAbs y.natAbs < 18446744073709551616:=Nat.lt_of_le_of_lt (Nat.div_le_self _ _) (by omega)
obtain⟨f,hn,hd⟩:=qmo (decide (x<0) != decide (y<0)) _ _ hq0 (qjb x.natAbs y.natAbs hyp)
have habs:f.num.natAbs=x.natAbs/Nat.gcd x.natAbs y.natAbs:=by rw[hn,jk]
refine⟨f,decide (f.num<0),(f.num.natAbs:Int),(f.den:Int)-1,?_,?_,fun W=>.inl ⟨by rw[habs];exact hpB,by rw[hd];exact hqB,rfl⟩,fun W=>?_⟩
·exact znl (m:=1) (n:=1) (by rw[habs,Nat.pow_one];exact hpB) (by rw[hd,Nat.pow_one];exact hqB) 1 (Nat.le_refl _) (Nat.le_refl _)
·rw[hn,hd]
 exact qms x y _ _ _ hd1.symm hd2.symm
·rw[habs,hd]
 exact zwz x y hx1 hx2 hy1 hy2 hy0 W _ _ _ (by show _=_;rw[hn,zek]) rfl rfl)
theorem znc (x y:Int) (hx1:-9223372036854775808≤x) (hx2:x<9223372036854775808) (hy1:-9223372036854775808≤y) (hy2:y<9223372036854775808) :
  ∃ (f:Rat) (r:Bool) (p q:Int),Len f 1∧f.num*(if y=0 then 1 else y)=x*f.den∧(∀ W,aq W (.agg #[.bool r,.int .u64 p,.int .u64 q,.pointer none]) f)∧∀ W,Calls prog 10 #[.agg #[.int .i64 x,.int .i64 y]] W fun e w'=>e=.returned (.agg #[.bool r,.int .u64 p,.int .u64 q,.pointer none])∧But [] W w':=by(
by_cases hy0:y=0
·(
subst hy0
obtain⟨f,r,p,q,h1,h2,h3,h4⟩:=zpy x 1 hx1 hx2 (by omega) (by omega) (by omega)
refine⟨f,r,p,q,h1,by rw[if_pos rfl];exact h2,h3,fun w=>?_⟩
have OF:=af h4
clear h1 h2 h3 h4
go_enter func10,ntmps10
go_wp2_with fail
obtain⟨W,hW⟩:∃ W,W=(w.alloc (.cells #[.int .i64 x,.int .i64 1] 23)).alloc (.cells #[.bool false,.int .u64 0,.int .u64 0,.pointer none] 27):=⟨_,rfl⟩
have r0:W.cell? ⟨w.heap.size+1,0,none⟩=some (.bool false):=by rw[hW];simp
have r1:W.cell? ⟨w.heap.size+1,1,none⟩=some (.int .u64 0):=by rw[hW];simp
have r2:W.cell? ⟨w.heap.size+1,2,none⟩=some (.int .u64 0):=by rw[hW];simp
have r3:W.cell? ⟨w.heap.size+1,3,none⟩=some (.pointer none):=by rw[hW];simp
have fz:∀ j,W.frozen? ⟨w.heap.size+1,j,none⟩=false:=fun j=>by rw[hW];simp
have hB:But [] w W:=by rw[hW];exact ((But.refl _ _).alloc _).alloc _
rw[← hW]
clear hW
obtain⟨gr,hgr⟩:∃ gr,gr=w.heap.size+1:=⟨_,rfl⟩
rw[← hgr] at r0 r1 r2 r3 fz
rw[← hgr]
have HGR:Hid (w.heap.size≤gr):=by show _≤_;omega
clear hgr
have grl:gr<W.heap.size:=ai r0
refine (ae OF _).mono ?_
rintro e w1 ⟨rfl,hb1⟩
have u0:=hb1.ag r0 (by simp)
have u1:=hb1.ag r1 (by simp)
have u2:=hb1.ag r2 (by simp)
have u3:=hb1.ag r3 (by simp)
have uf:∀ j,w1.frozen? ⟨gr,j,none⟩=false:=fun j=>(hb1.frozen (p:=⟨gr,j,none⟩) grl (by simp)).trans (fz j)
have HB1:Hid (But [] w w1):=hB.trans' hb1
have gl1:gr<w1.heap.size:=ai u0
clear hb1 hB r0 r1 r2 r3 fz grl
go_wp2
have hBf:=(((((ae HB1).setCell (p:=⟨gr,0,none⟩) (.inr (ae HGR)) (.bool r)).setCell (p:=⟨gr,1,none⟩) (.inr (ae HGR)) (.int .u64 p)).setCell (p:=⟨gr,2,none⟩) (.inr (ae HGR)) (.int .u64 q)).setCell (p:=⟨gr,3,none⟩) (.inr (ae HGR)) (.pointer none)).alloc (.cells #[.bool r,.int .u64 p,.int .u64 q,.pointer none] 27)
exact bodyPost_ret (v:=.agg #[.bool r,.int .u64 p,.int .u64 q,.pointer none]) (by simp[results,results10,go_sem,u0,u1,u2,u3,gl1]) rfl ⟨rfl,hBf⟩)
·(
obtain⟨f,r,p,q,h1,h2,h3,h4⟩:=zpy x y hx1 hx2 hy1 hy2 hy0
refine⟨f,r,p,q,h1,by rw[if_neg hy0];exact h2,h3,fun w=>?_⟩
have n0:(y==0)=false:=by simp[hy0]
have OF:=af h4
clear h1 h2 h3 h4
go_enter func10,ntmps10
go_wp2_with fail
obtain⟨W,hW⟩:∃ W,W=(w.alloc (.cells #[.int .i64 x,.int .i64 y] 23)).alloc (.cells #[.bool false,.int .u64 0,.int .u64 0,.pointer none] 27):=⟨_,rfl⟩
have r0:W.cell? ⟨w.heap.size+1,0,none⟩=some (.bool false):=by rw[hW];simp
have r1:W.cell? ⟨w.heap.size+1,1,none⟩=some (.int .u64 0):=by rw[hW];simp
have r2:W.cell? ⟨w.heap.size+1,2,none⟩=some (.int .u64 0):=by rw[hW];simp
have r3:W.cell? ⟨w.heap.size+1,3,none⟩=some (.pointer none):=by rw[hW];simp
have fz:∀ j,W.frozen? ⟨w.heap.size+1,j,none⟩=false:=fun j=>by rw[hW];simp
have hB:But [] w W:=by rw[hW];exact ((But.refl _ _).alloc _).alloc _
rw[← hW]
clear hW
obtain⟨gr,hgr⟩:∃ gr,gr=w.heap.size+1:=⟨_,rfl⟩
rw[← hgr] at r0 r1 r2 r3 fz
rw[← hgr]
have HGR:Hid (w.heap.size≤gr):=by show _≤_;omega
clear hgr
have grl:gr<W.heap.size:=ai r0
refine (ae OF _).mono ?_
rintro e w1 ⟨rfl,hb1⟩
have u0:=hb1.ag r0 (by simp)
have u1:=hb1.ag r1 (by simp)
have u2:=hb1.ag r2 (by simp)
have u3:=hb1.ag r3 (by simp)
have uf:∀ j,w1.frozen? ⟨gr,j,none⟩=false:=fun j=>(hb1.frozen (p:=⟨gr,j,none⟩) grl (by simp)).trans (fz j)
have HB1:Hid (But [] w w1):=hB.trans' hb1
have gl1:gr<w1.heap.size:=ai u0
clear hb1 hB r0 r1 r2 r3 fz grl
go_wp2
have hBf:=(((((ae HB1).setCell (p:=⟨gr,0,none⟩) (.inr (ae HGR)) (.bool r)).setCell (p:=⟨gr,1,none⟩) (.inr (ae HGR)) (.int .u64 p)).setCell (p:=⟨gr,2,none⟩) (.inr (ae HGR)) (.int .u64 q)).setCell (p:=⟨gr,3,none⟩) (.inr (ae HGR)) (.pointer none)).alloc (.cells #[.bool r,.int .u64 p,.int .u64 q,.pointer none] 27)
exact bodyPost_ret (v:=.agg #[.bool r,.int .u64 p,.int .u64 q,.pointer none]) (by simp[results,results10,go_sem,u0,u1,u2,u3,gl1]) rfl ⟨rfl,hBf⟩))
theorem bk (n:Int):((n:Int):Rat).num=n∧((n:Int):Rat).den=1:=⟨by simp,by simp⟩
theorem zio (n:Int) (h:n.natAbs < 18446744073709551616):Len ((n:Int):Rat) 1:=by
 obtain⟨h1,h2⟩:=bk n
 exact znl (m:=1) (n:=1) (by rw[h1,Nat.pow_one];exact h) (by rw[h2];decide) 1 (Nat.le_refl _) (Nat.le_refl _)
theorem zdv (x:Int) (h1:-9223372036854775808≤x) (h2:x<9223372036854775808) :
  ∃ (r:Bool) (p:Int),(∀ W,aq W (.agg #[.bool r,.int .u64 p,.int .u64 0,.pointer none]) ((x:Int):Rat))∧∀ W,Calls prog 114 #[.int .i64 x] W fun e w'=>e=.returned (.agg #[.bool r,.int .u64 p,.int .u64 0,.pointer none])∧But [] W w':=by(
obtain⟨e1,e2⟩:=bk x
refine⟨decide (x<0),((x.natAbs:Nat):Int),fun W=>.inl ⟨by rw[e1];omega,by rw[e2];decide,by rw[e1,e2];rfl⟩,fun W=>?_⟩
have h:=zzl x h1 h2 W
rw[show (((1:Nat):Int)-1)=0 from rfl] at h
exact h)
theorem qby (x:Rat):x*((x.den:Int):Rat)=((x.num:Int):Rat):=by(
obtain⟨i1,i2⟩:=bk (x.den:Int)
obtain⟨j1,j2⟩:=bk x.num
have h:=zcf x ((x.den:Int):Rat)
rw[i1,i2,Nat.mul_one] at h
have hd:=den_pos x
obtain⟨e1,e2⟩:=mg x.num 1 (by omega) (by simp) (x*((x.den:Int):Rat)) (by
 refine Int.eq_of_mul_eq_mul_right (show (x.den:Int)≠0 by omega) ?_
 grind)
exact Rat.ext (by rw[e1,j1]) (by rw[e2,j2]))
theorem int_ne (z:Int) (h:z≠0):((z:Int):Rat)≠0:=fun e=>h (by
 have:=congrArg Rat.num e
 rwa [(bk z).1] at this)
def qf (q:Int × Int):Rat:=((q.1:Int):Rat)/(((if q.2=0 then 1 else q.2):Int):Rat)
theorem qjq (f:Rat) (q:Int × Int) (h:f.num*(if q.2=0 then 1 else q.2)=q.1*f.den):f=qf q:=by(
unfold qf
have hy:(if q.2=0 then (1:Int) else q.2)≠0:=by split <;> omega
generalize (if q.2=0 then (1:Int) else q.2)=y at *
have h1:=qby f
have h2:((f.num*y:Int):Rat)=((q.1*(f.den:Int):Int):Rat):=by rw[h]
rw[Rat.intCast_mul,Rat.intCast_mul] at h2
have hd:=int_ne (f.den:Int) (by have:=den_pos f;omega)
have hy':=int_ne y hy
generalize ((y:Int):Rat)=Y at *
generalize ((f.den:Int):Rat)=D at *
generalize ((f.num:Int):Rat)=M at *
generalize ((q.1:Int):Rat)=X at *
rw[← h1] at h2
grind)
def Fits (q:Int × Int):Prop:=-9223372036854775808≤q.1∧q.1<9223372036854775808∧-9223372036854775808≤q.2∧q.2<9223372036854775808
theorem zpm (q:Int × Int) (h:Fits q):∃ (r:Bool) (x y:Int),Len (qf q) 1∧(∀ W,aq W (.agg #[.bool r,.int .u64 x,.int .u64 y,.pointer none]) (qf q))∧∀ W,Calls prog 10 #[.agg #[.int .i64 q.1,.int .i64 q.2]] W fun e w'=>e=.returned (.agg #[.bool r,.int .u64 x,.int .u64 y,.pointer none])∧But [] W w':=by(
obtain⟨f,r,x,y,h1,h2,h3,h4⟩:=znc q.1 q.2 h.1 h.2.1 h.2.2.1 h.2.2.2
have e:=qjq f q h2
subst e
exact⟨r,x,y,h1,h3,h4⟩)
def zsd (w:World) (v:Value) (qs:List (Int × Int)):Prop:=∃ a cap,v=.slice a qs.length cap∧qs.length≤cap∧∀ i q,qs[i]? = some q→∃ b off,a=some ⟨b,off,none⟩∧w.cell? ⟨b,off+i*2,none⟩=some (.int .i64 q.1)∧w.cell? ⟨b,off+i*2+1,none⟩=some (.int .i64 q.2)
theorem zsd.but {w w':World} {v:Value} {qs:List (Int × Int)} (h:zsd w v qs) (hb:But [] w w'):zsd w' v qs:=by(
obtain⟨a,cap,e,hc,h⟩:=h
refine⟨a,cap,e,hc,fun i q hq=>?_⟩
obtain⟨b,off,e1,h1,h2⟩:=h i q hq
exact⟨b,off,e1,hb.ag h1 (by simp),hb.ag h2 (by simp)⟩)
theorem zve (w:World) (base:Nat) (v:Value) (k:Nat) (vs:List Value) (hown:w.ownsRow base 27 4 v k (zbk vs)) (g:Nat) (s:Bool) (x y:Int) (p:Option Addr) (c:P4 w g s x y p) (hk:k<1000000) (hb:base≤w.heap.size) :
  ∃ v' w',(Builtin.append_ #[45,45] 45 #[v,.slice (some ⟨g,0,none⟩) 1 1]).run prog w=.ok v' w'∧w'.ownsRow base 27 4 v' (k+1) (zbk (vs++[.agg #[.bool s,.int .u64 x,.int .u64 y,.pointer p]]))∧w.grownBy w' v.ownBlock:=by(
obtain⟨i0,hi,hz0,hz1,hz2⟩:=zpx
obtain⟨v',w',hr,ho,hg,-⟩:=run_append_own (P:=prog) w base 45 45 27 i0 _ 4 32 underlying45 hi hz0 hz1 hz2 rfl (by decide) v k (zbk vs) hown ⟨g,0,none⟩ 1 1 [.bool s,.int .u64 x,.int .u64 y,.pointer p] rfl (fun j u hj=>by
  have:j=0∨j=1∨j=2∨j=3∨4≤j:=by omega
  obtain⟨c0,c1,c2,c3⟩:=c
  rcases this with rfl|rfl|rfl|rfl | h4
  ·simp at hj;subst hj;exact c0
  ·simp at hj;subst hj;exact c1
  ·simp at hj;subst hj;exact c2
  ·simp at hj;subst hj;exact c3
  ·rw[List.getElem?_eq_none (by simpa using h4)] at hj;simp at hj) (fun u hu=>by
  simp only[List.mem_cons,List.not_mem_nil,or_false] at hu
  rcases hu with rfl|rfl|rfl|rfl <;> rfl) (by unfold maxLen;omega) (by omega) hb
refine⟨v',w',hr,?_,hg⟩
rw[zop]
exact ho)
theorem zxg (x y:Int):-1≤oo x y∧oo x y≤1:=by(
unfold oo
split
·omega
·split <;> omega)
theorem qgx (n:Int):(oo n 1==0)=decide (n=1):=by(
unfold oo
by_cases h1:n<1
·rw[if_pos h1,decide_eq_false (by omega)];rfl
·by_cases h2:n=1
 ·rw[if_neg h1,if_pos h2,decide_eq_true h2];rfl
 ·rw[if_neg h1,if_neg h2,decide_eq_false h2];rfl)
theorem zon (xb:Nat) (x:Int) (nx:Nat) (w:World) (hx:qd w xb x (nx:Int)) (hnx:0<nx) (hnxl:(wd 4294967296 nx).length<8388608) :
  Calls prog 172 #[.pointer (some ⟨xb,0,none⟩)] w fun e w'=>e=.returned (.bool (decide (nx=1)))∧But [] w w':=by(
have DX:=af (pq xb x nx w hx hnx)
have one:(wd 4294967296 (1:Int).natAbs).length<2147483648:=by
 have:=dx 1 (by omega)
 simpa using Nat.lt_of_le_of_lt this (by omega)
have CM:=af (fun W b (h1:ze W xb 2 (nx:Int)) (h2:ze W b 0 1)=>zdm xb 2 b 0 (nx:Int) 1 W h1 h2 (by rw[Int.natAbs_natCast];omega) one)
obtain⟨c1,c2⟩:=zxg (nx:Int) 1
have hc:Hid ((oo (nx:Int) 1==0)=decide (nx=1)):=by
 show _=_
 rw[qgx]
 exact decide_eq_decide.2 (by omega)
generalize oo (nx:Int) 1=cd at CM c1 c2 hc
clear one
go_enter func172,ntmps172
go_wp2_with fail
refine (ae DX).mono ?_
rintro e w1 ⟨rfl,hw⟩
obtain rfl:=hw.symm
clear hw
go_wp2_with fail
refine (zar 1 _ (by omega) (by omega)).mono ?_
rintro e w2 ⟨rfl,B2,I2,S2⟩
go_wp2_with fail
refine (ae CM _ _ (hx.low.but B2) I2).mono ?_
rintro e w3 ⟨rfl,q,rfl⟩
clear CM DX
go_wp2
go_ret
exact⟨by rw[← ae hc];rfl,B2.drewN _⟩)
def zcs (z:Int):List UInt8:=if z<0 then 45::Lib.decDigits z.natAbs else Lib.decDigits z.natAbs
theorem qan {w:World} {base:Nat} {e:TypeId} {v:Value} {ds:List UInt8} (h:w.ownsRow base e 1 v (ds.length+1) (ds.map u8v++[.int .u8 45])) :
  ∃ g cap,v=.slice (some ⟨g,0,none⟩) (ds.length+1) cap∧base≤g∧ds.length+1≤cap∧Row .u8 w g ((ds++[45]).map UInt8.toNat):=by(
have h':w.ownsRow base e 1 v (ds++[45]).length ((ds++[45]).map u8v):=by rw[List.length_append,List.map_append];exact h
have h2:=zdz h' (by simp)
rw[List.length_append] at h2
exact h2)
theorem zsn (z:Int) (hz:z≠0) (ds:List UInt8) (h:yh z.natAbs=ds):zcs z=(if z<0 then ds++[45] else ds).reverse:=by
 rw[zcs,← zib _ (by omega),h]
 split <;> simp
structure qjm (w:World) (n m:Nat) (ds:List UInt8) (vb va:Value) (wr:World):Prop where
 words:Sl .u32 wr va (wd 4294967296 m)
 own:wr.ownsRow w.heap.size 5 1 vb ds.length (ds.map u8v)
 but:But [] w wr
 dig:yh n=ds++yh m
 len:(wd 4294967296 m).length<1073741824
theorem zuf (b o:Nat) (z:Int) (w:World) (h:ze w b o z) (hz:z≠0) (hl:(wd 4294967296 z.natAbs).length<1073741824) (hd:(yh z.natAbs).length<1073741824) (t:ByteArray) (ht:Hid (t=⟨(zcs z).toArray⟩)) :
  Calls prog 232 #[.pointer (some ⟨b,o,none⟩),.int .i64 10] w fun e w'=>e=.returned (.string t)∧But [] w w':=by(
obtain⟨b0,vb,b1,hvb⟩:=h
obtain⟨i0,hi,hz0,hz1,hz2⟩:=zly
have hvb':=hvb
obtain⟨a,cap,rfl,-,-⟩:=hvb'
have n0:(((wd 4294967296 z.natAbs).length:Int)==0)=false:=by
 have:=zh (B:=4294967296) (by omega) z.natAbs
 simp;intro h;simp[h] at this;omega
have HV:=af hvb
have HL:=af hl
clear hvb hl
generalize (wd 4294967296 z.natAbs).length=l at n0 b1 HV
go_enter func232,ntmps232
go_wp2_with fail
refine (zfi _ _ _ (ae HV) (by have:=ae HL;omega)).mono ?_
rintro e w1 ⟨v1,rfl,hv1,hb1,-⟩
have B0:=hb1.ag b0 (by simp)
go_wp2
go_loopg [5,6,7] z.natAbs (fun m vb va vr wr=>∃ ds:List UInt8,qjm w z.natAbs m ds vb va wr)
case atStart=>exact⟨[],⟨hv1,World.ownsRow_nil _ _ _ _,hb1,rfl,ae HL⟩⟩
case round =>(
obtain⟨ds,hI⟩:=hrel
have hlz:=zh (B:=4294967296) (by omega) gk
obtain⟨hsl,hown,hbut,hdig,hlen⟩:=hI
have hsl':=hsl
obtain⟨aa,ca,rfl,-,-⟩:=hsl'
have hdl:ds.length<1073741824:=by have:=congrArg List.length hdig;rw[List.length_append] at this;omega
generalize hla:(wd 4294967296 gk).length=la at *
by_cases hm:gk=0
·(
have:la=0:=by omega
subst this
subst hm
rw[sj,List.append_nil] at hdig
have hn0:0<ds.length:=by
 rw[← hdig,zab (by omega)];simp
have c0:=hbut.ag b0 (by simp)
have HDG:=af hdig
clear hdig hla hlen hsl hlz
by_cases hneg:z<0
·(
rw[decide_eq_true hneg] at c0
have HT:Hid (t=⟨(ds++[45]).reverse.toArray⟩):=by show _=_;rw[ae ht,zsn z hz ds (ae HDG),if_pos hneg]
go_wp2_with (at_builtin;refine wpList_append_own _ rfl _ _ 164 rfl w.heap.size 5 i0 (.int .u8 0) 1 1 underlying164 hi hz0 hz1 hz2 rfl (by decide) _ _ _ rfl (hown.alloc _) ⟨wr.heap.size,0,none⟩ 1 1 [_] rfl rfl (cell_one_new _ _ _) (by intro u hu;simp at hu;subst hu;rfl) (by unfold maxLen;omega) (by omega) (by have:=hbut.size;simp;omega) ?_;intro v3 w3 hown3 hgrow3 hnil3;have hBW:But [] w w3:=(hbut.alloc _).grown hgrow3 (fun k hk=>(hown.lt k hk).1);obtain⟨g,cg,rfl,hg,hcg,hrow⟩:=qan hown3;clear hown3 hgrow3 hnil3)
go_loopw [8,9,10] (fun i j x wq=>∃ (k q:Nat) (cs:List Nat),i=.int .i64 k∧j=.int .i64 q∧k≤q+1∧Hid (k+q+1=ds.length+1∧zas ((ds++[45]).map UInt8.toNat) cs k∧Row .u8 wq g cs∧But [] w wq)) (fun i _ _ _=>ds.length+1-(intOf i).toNat)
case atStart=>exact⟨0,ds.length+1-1,(ds++[45]).map UInt8.toNat,rfl,by congr 1 <;> omega,by omega,by omega,zas.start _,hrow,hBW⟩
case round =>(
obtain⟨k,q,cs,rfl,rfl,hkq,HJ⟩:=hrel
rename World=>wq
have hbl:((ds++[45]).map UInt8.toNat).length=ds.length+1:=by simp
have hcl:cs.length=ds.length+1:=by rw[(ae HJ).2.1.len,hbl]
have hsum:=(ae HJ).1
by_cases hlt:k<q
·(
obtain⟨ck,fk⟩:=(ae HJ).2.2.1 k (by omega)
obtain⟨cq,fq⟩:=(ae HJ).2.2.1 q (by omega)
have ST:=af ((ae HJ).2.1.step (by rw[hbl];omega))
have hq:q=ds.length+1-1-k:=by omega
rw[hbl,← hq] at ST
have HC:=af hcl
have HS:=af hsum
have ne1:k≠q:=by omega
have hk1:k<ds.length+1:=by omega
have hq1:q<ds.length+1:=by omega
clear hcl hbl hsum hq
generalize hx:cs[k]?.getD 0=x at *
generalize hy:cs[q]?.getD 0=y at *
clear hx hy
go_wp2
refine⟨⟨k+1,q-1,(cs.set k y).set q x,by go_num,by rw[Int.ofNat_sub (by omega)];rfl,by omega,by have:=ae HS;omega,ae ST,((ae HJ).2.2.1.set k (by rw[ae HC];have:=ae HS;omega) y).set q (by rw[List.length_set,ae HC];have:=ae HS;omega) x,((ae HJ).2.2.2.setCell (.inr hg) _).setCell (.inr hg) _⟩,?_⟩
have:=ae HS
simp[intOf];omega)
·(
have hfin:cs=((ds++[45]).map UInt8.toNat).reverse:=(ae HJ).2.1.fin (by rw[hbl];omega)
have hcv:=run_convert_bytes_back (P:=prog) wq 164 9 5 ⟨g,0,none⟩ cg (ds++[45]).reverse underlying164 underlying5 underlying9 (fun j hj=>by
 have h1:=((ae HJ).2.2.1 j (by rw[hcl];simpa using hj)).1
 rw[hfin,← List.map_reverse,List.getElem?_map,List.getElem?_eq_getElem hj] at h1
 have e:(⟨g,0,none⟩:Addr).add j=⟨g,j,none⟩:=by by_cases h:j=0 <;> simp[Addr.add,h]
 rw[e];exact h1)
rw[← ae HT] at hcv
simp only[List.length_reverse,List.length_append,List.length_cons,List.length_nil,Nat.zero_add] at hcv
have HB:=af (ae HJ).2.2.2
clear hcl hbl hfin hsum HJ
go_wp2
go_ret
exact⟨rfl,ae HB⟩)))
·(
rw[decide_eq_false hneg] at c0
have HT:Hid (t=⟨ds.reverse.toArray⟩):=by show _=_;rw[ae ht,zsn z hz ds (ae HDG),if_neg hneg]
obtain⟨g,cg,rfl,hg,hcg,hrow⟩:=zdz hown hn0
have hBW:=hbut
go_wp2
go_loopw [8,9,10] (fun i j x wq=>∃ (k q:Nat) (cs:List Nat),i=.int .i64 k∧j=.int .i64 q∧k≤q+1∧Hid (k+q+1=ds.length∧zas ((ds).map UInt8.toNat) cs k∧Row .u8 wq g cs∧But [] w wq)) (fun i _ _ _=>ds.length-(intOf i).toNat)
case atStart=>exact⟨0,ds.length-1,(ds).map UInt8.toNat,rfl,by congr 1 <;> omega,by omega,by omega,zas.start _,hrow,hBW⟩
case round =>(
obtain⟨k,q,cs,rfl,rfl,hkq,HJ⟩:=hrel
rename World=>wq
have hbl:((ds).map UInt8.toNat).length=ds.length:=by simp
have hcl:cs.length=ds.length:=by rw[(ae HJ).2.1.len,hbl]
have hsum:=(ae HJ).1
by_cases hlt:k<q
·(
obtain⟨ck,fk⟩:=(ae HJ).2.2.1 k (by omega)
obtain⟨cq,fq⟩:=(ae HJ).2.2.1 q (by omega)
have ST:=af ((ae HJ).2.1.step (by rw[hbl];omega))
have hq:q=ds.length-1-k:=by omega
rw[hbl,← hq] at ST
have HC:=af hcl
have HS:=af hsum
have ne1:k≠q:=by omega
have hk1:k<ds.length:=by omega
have hq1:q<ds.length:=by omega
clear hcl hbl hsum hq
generalize hx:cs[k]?.getD 0=x at *
generalize hy:cs[q]?.getD 0=y at *
clear hx hy
go_wp2
refine⟨⟨k+1,q-1,(cs.set k y).set q x,by go_num,by rw[Int.ofNat_sub (by omega)];rfl,by omega,by have:=ae HS;omega,ae ST,((ae HJ).2.2.1.set k (by rw[ae HC];have:=ae HS;omega) y).set q (by rw[List.length_set,ae HC];have:=ae HS;omega) x,((ae HJ).2.2.2.setCell (.inr hg) _).setCell (.inr hg) _⟩,?_⟩
have:=ae HS
simp[intOf];omega)
·(
have hfin:cs=((ds).map UInt8.toNat).reverse:=(ae HJ).2.1.fin (by rw[hbl];omega)
have hcv:=run_convert_bytes_back (P:=prog) wq 164 9 5 ⟨g,0,none⟩ cg (ds).reverse underlying164 underlying5 underlying9 (fun j hj=>by
 have h1:=((ae HJ).2.2.1 j (by rw[hcl];simpa using hj)).1
 rw[hfin,← List.map_reverse,List.getElem?_map,List.getElem?_eq_getElem hj] at h1
 have e:(⟨g,0,none⟩:Addr).add j=⟨g,j,none⟩:=by by_cases h:j=0 <;> simp[Addr.add,h]
 rw[e];exact h1)
rw[← ae HT] at hcv
rw[List.length_reverse] at hcv
have HB:=af (ae HJ).2.2.2
clear hcl hbl hfin hsum HJ
go_wp2
go_ret
exact⟨rfl,ae HB⟩))))
·(
have hla0:0<la:=by omega
have HA:=af hla
have HDG:=af hdig
clear hla hdig hlz
go_wp2_with fail
refine (zmn _ gk 10 _ hsl (by omega) (by omega) (by rw[ae HA];exact hlen)).mono ?_
rintro e w2 ⟨v2,rfl,hv2,hb2,hfr⟩
have hr10:gk%10<10:=Nat.mod_lt _ (by omega)
generalize hrr:gk%10=r at *
have HR:=af hrr
clear hrr
have hown2:=zbc hown hb2
go_wp2_with (at_builtin;refine wpList_append_own _ rfl _ _ 164 rfl w.heap.size 5 i0 (.int .u8 0) 1 1 underlying164 hi hz0 hz1 hz2 rfl (by decide) _ _ _ rfl (hown2.alloc _) ⟨w2.heap.size,0,none⟩ 1 1 [_] rfl rfl (cell_one_new _ _ _) (by intro u hu;simp at hu;subst hu;rfl) (by unfold maxLen;omega) (by omega) (by have:=hbut.size;have:=hb2.size;simp;omega) ?_;intro v3 w3 hown3 hgrow3 hnil3)
go_roundg (gk/10)
case measure=>exact Nat.div_lt_self (by omega) (by omega)
case rel =>(
refine⟨ds++[UInt8.ofNat (48+r)],qdk hv2 hgrow3 (fun k hk=>(hown.lt k hk).2) hfr,?_,((hbut.trans' hb2).alloc _).grown hgrow3 (fun k hk=>(hown.lt k hk).1),?_,?_⟩
·rw[List.length_append,List.map_append]
 rw[zjm r hr10] at hown3
 exact hown3
·rw[ae HDG,zab (by omega),ae HR,List.append_assoc];rfl
·have h1:=ak (B:=4294967296) (by omega) gk _ (Nat.le_refl _)
 have h2:=aj (B:=4294967296) (by omega) (gk/10) _ (Nat.lt_of_le_of_lt (Nat.div_le_self _ _) h1)
 rw[ae HA] at h2
 omega))))
theorem zug (b o:Nat) (z:Int) (w:World) (h:ze w b o z) (hl:(wd 4294967296 z.natAbs).length<1073741824) (hd:(yh z.natAbs).length<1073741824) (t:ByteArray) (ht:Hid (t=⟨(zcs z).toArray⟩)) :
  Calls prog 232 #[.pointer (some ⟨b,o,none⟩),.int .i64 10] w fun e w'=>e=.returned (.string t)∧But [] w w':=by(
by_cases hz:z=0
·(
subst hz
obtain⟨b0,vb,b1,hvb⟩:=h
simp only[Int.natAbs_zero,zi] at hvb
obtain⟨a,cap,rfl,-,-⟩:=hvb
have e:Hid (t=⟨#[48]⟩):=by
 show _=_
 rw[ae ht]
 have:zcs 0=[48]:=by rw[zcs,if_neg (by omega),Int.natAbs_zero,Lib.decDigits,dif_pos (by omega)];rfl
 rw[this]
clear ht hl hd b0
go_enter func232,ntmps232
go_wp2
go_ret
exact⟨by rw[ae e];rfl,But.refl _ _⟩)
·exact zuf b o z w h hz hl hd t ht)
theorem zdt (b o:Nat) (z:Int) (w:World) (h:ze w b o z) (hl:(wd 4294967296 z.natAbs).length<1073741824) (hd:(yh z.natAbs).length<1073741824) (t:ByteArray) (ht:Hid (t=⟨(zcs z).toArray⟩)) :
  Calls prog 173 #[.pointer (some ⟨b,o,none⟩)] w fun e w'=>e=.returned (.string t)∧But [] w w':=by(
go_enter func173,ntmps173
go_wp2_with fail
refine (zug b o z _ h hl hd t ht).mono ?_
rintro e w1 ⟨rfl,hb⟩
go_wp2
go_ret
exact⟨rfl,hb⟩)
def zjs (p:Int) (n:Nat):ByteArray:=if n=1 then ⟨(zcs p).toArray⟩ else ⟨(zcs p).toArray⟩++⟨#[47]⟩++⟨(zcs n).toArray⟩
theorem zja (X n:Nat) (h:(wd 4294967296 X).length≤n):(yh X).length≤10*n:=by(
refine zde X _ ?_
have h1:=ak (B:=4294967296) (by omega) X n h
refine Nat.lt_of_lt_of_le h1 ?_
rw[Nat.pow_mul]
exact Nat.pow_le_pow_left (by omega) n)
theorem zut (z:Int) (n:Nat) (h:(wd 4294967296 z.natAbs).length≤n):(zcs z).length≤10*n+2:=by(
have hd:(Lib.decDigits z.natAbs).length≤10*n+1:=by
 rcases Nat.eq_zero_or_pos z.natAbs with h0 | h0
 ·rw[h0,Lib.decDigits_length,Lib.nDigits_small (by omega)];omega
 ·rw[← zib _ h0,List.length_reverse]
  have:=zja z.natAbs n h
  omega
unfold zcs
split
·rw[List.length_cons];omega
·omega)
theorem zom (b:Nat) (p:Int) (n:Nat) (w:World) (h:qd w b p n) (hn0:0<n) (hp:(wd 4294967296 p.natAbs).length≤4000000) (hn:(wd 4294967296 n).length≤4000000) (t:ByteArray) (ht:Hid (t=⟨(zcs p).toArray⟩++⟨#[47]⟩++⟨(zcs n).toArray⟩)) :
  Calls prog 174 #[.pointer (some ⟨b,0,none⟩)] w fun e w'=>e=.returned (.string t)∧But [] w w':=by(
obtain⟨tp,htp⟩:∃ tp:ByteArray,tp=⟨(zcs p).toArray⟩:=⟨_,rfl⟩
obtain⟨tn,htn⟩:∃ tn:ByteArray,tn=⟨(zcs n).toArray⟩:=⟨_,rfl⟩
have sp:tp.size≤40000002:=by rw[htp];exact zut p 4000000 hp
have sn:tn.size≤40000002:=by rw[htn];exact zut n 4000000 (by rw[Int.natAbs_natCast];exact hn)
rw[← htp,← htn] at ht
have S1:=af (fun W (h:qd W b p n)=>zdt b 0 p W h.up (by omega) (by have:=zja p.natAbs _ hp;omega) tp htp)
have S2:=af (fun W (h:qd W b p n)=>zdt b 2 n W h.low (by rw[Int.natAbs_natCast];omega) (by rw[Int.natAbs_natCast];have:=zja n _ hn;omega) tn htn)
clear htp htn hp hn
go_enter func174,ntmps174
go_wp2_with fail
refine (ae S1 _ h).mono ?_
rintro e w1 ⟨rfl,B1⟩
go_wp2_with fail
refine (pq b p n _ (h.but B1) hn0).mono ?_
rintro e w2 ⟨rfl,hw⟩
obtain rfl:=hw.symm
clear hw
go_wp2_with fail
refine (ae S2 _ (h.but B1)).mono ?_
rintro e w2 ⟨rfl,B2⟩
go_wp2
go_ret
exact⟨by rw[ae ht];rfl,B1.trans' B2⟩)
theorem zjt (b:Nat) (p:Int) (n:Nat) (w:World) (h:qd w b p n) (hn0:0<n) (hp:(wd 4294967296 p.natAbs).length≤4000000) (hn:(wd 4294967296 n).length≤4000000) (t:ByteArray) (ht:Hid (t=zjs p n)) :
  Calls prog 89 #[.pointer (some ⟨b,0,none⟩)] w fun e w'=>e=.returned (.string t)∧But [] w w':=by(
have IS:=af (zon b p n w h hn0 (by omega))
by_cases h1:n=1
·(
have e1:Hid (t=⟨(zcs p).toArray⟩):=by show _=_;rw[ae ht,zjs,if_pos h1]
rw[decide_eq_true h1] at IS
have S1:=af (fun W (h:qd W b p n)=>zdt b 0 p W h.up (by omega) (by have:=zja p.natAbs _ hp;omega) t e1)
clear ht hp hn h1
go_enter func89,ntmps89
go_wp2_with fail
refine (ae IS).mono ?_
rintro e w1 ⟨rfl,B1⟩
go_wp2_with fail
refine (ae S1 _ (h.but B1)).mono ?_
rintro e w2 ⟨rfl,B2⟩
go_wp2
go_ret
exact⟨rfl,B1.trans' B2⟩)
·(
have e1:Hid (t=⟨(zcs p).toArray⟩++⟨#[47]⟩++⟨(zcs n).toArray⟩):=by show _=_;rw[ae ht,zjs,if_neg h1]
rw[decide_eq_false h1] at IS
have S1:=af (fun W (h:qd W b p n)=>zom b p n W h hn0 hp hn t e1)
clear ht hp hn h1
go_enter func89,ntmps89
go_wp2_with fail
refine (ae IS).mono ?_
rintro e w1 ⟨rfl,B1⟩
go_wp2_with fail
refine (ae S1 _ (h.but B1)).mono ?_
rintro e w2 ⟨rfl,B2⟩
go_wp2
go_ret
exact⟨rfl,B1.trans' B2⟩))
theorem zsy (b:Nat) (f:Rat) (w:World) (h:zo w b f) (hl:jc f 4000000) (t:ByteArray) (ht:Hid (t=zjs f.num f.den)) :
  Calls prog 13 #[.pointer (some ⟨b,0,none⟩)] w fun e w'=>e=.returned (.string t)∧But [] w w':=by(
have RS:=af (zjt b f.num f.den w h (Nat.pos_of_ne_zero f.den_nz) hl.1 hl.2 t ht)
clear h hl ht
go_enter func13,ntmps13
go_wp2_with fail
refine (ae RS).mono ?_
rintro e w1 ⟨rfl,hb⟩
go_wp2
go_ret
exact⟨rfl,hb⟩)
theorem qiw {a b:ByteArray} (h:a.data.toList=b.data.toList):a=b:=by
 cases a;cases b;simp only[ByteArray.mk.injEq];exact Array.ext' h
theorem zlw (a b:ByteArray):(a++b).data.toList=a.data.toList++b.data.toList:=by simp
theorem qcu (x:Rat):zbw (decide (x.num<0)) x.num.natAbs x.den=zjs x.num x.den:=by(
apply qiw
have e:zcs x.num=(if decide (x.num<0) then [45] else [])++Lib.decDigits x.num.natAbs:=by
 rw[zcs]
 by_cases h:x.num<0
 ·rw[if_pos h,decide_eq_true h];rfl
 ·rw[if_neg h,decide_eq_false h];rfl
have e2:zcs (x.den:Int)=Lib.decDigits x.den:=by rw[zcs,if_neg (by omega),Int.natAbs_natCast]
generalize decide (x.num<0)=r at *
rw[zbw,zjs,zlw]
by_cases hq:x.den=1
·rw[if_pos hq,if_pos hq,e]
 cases r <;> simp
·rw[if_neg hq,if_neg hq,zlw,zlw,zlw,e,e2]
 cases r <;> simp)
theorem ziq {f:Rat} {n:Nat} (h:Len f n):jc f (2*n):=by(
have h1:=ak (B:=18446744073709551616) (by omega) _ n h.1
have h2:=ak (B:=18446744073709551616) (by omega) _ n h.2
have e:(18446744073709551616:Nat)^n=4294967296^(2*n):=by rw[Nat.pow_mul]
rw[e] at h1 h2
exact⟨aj (by omega) _ _ h1,aj (by omega) _ _ h2⟩)
def isN (x:Rat) (M:Nat):Prop:=∃ z:Nat,x=((z:Int):Rat)∧z≤M
theorem isN.mono {x:Rat} {M K:Nat} (h:isN x M) (hk:M≤K):isN x K:=by
 obtain⟨z,e,hz⟩:=h
 exact⟨z,e,by omega⟩
theorem isN.add {x y:Rat} {M K:Nat} (h:isN x M) (k:isN y K):isN (x+y) (M+K):=by(
obtain⟨z,rfl,hz⟩:=h
obtain⟨v,rfl,hv⟩:=k
exact⟨z+v,by rw[Int.natCast_add,Rat.intCast_add],by omega⟩)
theorem isN.mul {x y:Rat} {M K:Nat} (h:isN x M) (k:isN y K):isN (x*y) (M*K):=by(
obtain⟨z,rfl,hz⟩:=h
obtain⟨v,rfl,hv⟩:=k
exact⟨z*v,by rw[Int.natCast_mul,Rat.intCast_mul],Nat.mul_le_mul hz hv⟩)
theorem zah (M:Nat):isN 0 M:=⟨0,rfl,by omega⟩
theorem zdl (M:Nat) (h:1≤M):isN 1 M:=⟨1,rfl,h⟩
theorem zes {x:Rat} {c:Nat} (h:isN x (18446744073709551616^c)):Len x (c+1):=by(
obtain⟨z,rfl,hz⟩:=h
obtain⟨e1,e2⟩:=bk (z:Int)
have h1:18446744073709551616^c < 18446744073709551616^(c+1):=Nat.pow_lt_pow_right (by omega) (by omega)
refine⟨?_,?_⟩
·rw[e1,Int.natAbs_natCast]
 exact aj (by omega) _ _ (by omega)
·rw[e2]
 refine aj (by omega) _ _ ?_
 exact Nat.one_lt_pow (by omega) (by omega))
theorem qgc {x:Rat} {c:Nat} (h0:0≤x) (hz:∃ z:Int,x=((z:Int):Rat)) (hl:Len x c):isN x (18446744073709551616^c):=by(
obtain⟨z,rfl⟩:=hz
have hz0:0≤z:=Rat.intCast_nonneg.1 h0
obtain⟨e1,e2⟩:=bk z
have h1:=ak (B:=18446744073709551616) (by omega) _ c hl.1
rw[e1] at h1
refine⟨z.toNat,by rw[Int.toNat_of_nonneg hz0],by omega⟩)
structure iy (w:World) (g n:Nat) (F:Nat→Rat):Prop where
 told:∀ j,j<n→zdu w g (j*4) (F j)
 loose:∀ o,w.frozen? ⟨g,o,none⟩=false
theorem iy.made (w:World) (n:Nat):iy (w.alloc (.cells (madeCells #[Value.bool false,.int .u64 0,.int .u64 0,.pointer none] (n*4)) 27)) w.heap.size n (fun _=>0) :=
 ⟨fun j hj=>⟨false,0,0,none,(uj.made w n (fun _=>0)).blank j (Nat.zero_le _) hj,zhn _⟩,(uj.made w n (fun _=>0)).loose⟩
theorem iy.but {w w':World} {g n:Nat} {F:Nat→Rat} (h:iy w g n F) (hb:But [] w w') (hg:g<w.heap.size):iy w' g n F :=
 ⟨fun j hj=>(h.told j hj).but hb,fun o=>(hb.frozen (p:=⟨g,o,none⟩) hg (by simp)).trans (h.loose o)⟩
theorem iy.bool {w:World} {g n:Nat} {F:Nat→Rat} (h:iy w g n F) (h0:0<n):∃ s,w.cell? ⟨g,0,none⟩=some (.bool s):=by(
obtain⟨s,x,y,p,a,-⟩:=h.told 0 h0
rw[Nat.zero_mul] at a
exact⟨_,a.1⟩)
def zda (F:Nat→Rat) (t:Nat) (v:Rat):Nat→Rat:=fun j=>if j=t then v else F j
theorem iy.set {w:World} {g n i:Nat} {F:Nat→Rat} (h:iy w g n F) (hi:i<n) (s1:Bool) (x1 y1:Int) (p1:Option Addr) (v:Rat) (h1:aq w (.agg #[.bool s1,.int .u64 x1,.int .u64 y1,.pointer p1]) v) :
  iy (w.setCells g (i*4) [.bool s1,.int .u64 x1,.int .u64 y1,.pointer p1]) g n (zda F i v):=by(
obtain⟨c,hc⟩:=h.bool (by omega)
obtain⟨s0,x0,y0,p0,a1,-⟩:=h.told i hi
have hb:=bp w g [.bool s1,.int .u64 x1,.int .u64 y1,.pointer p1] (i*4)
have some4:∀ k,k<4→(w.cell? ⟨g,i*4+k,none⟩).isSome=true:=fun k hk=>by
 have:k=0∨k=1∨k=2∨k=3:=by omega
 rcases this with rfl|rfl|rfl|rfl
 ·rw[show i*4+0=i*4 from rfl,a1.1];rfl
 ·rw[a1.2.1];rfl
 ·rw[a1.2.2.1];rfl
 ·rw[a1.2.2.2];rfl
have hin:∀ k (hk:k<4),(w.setCells g (i*4) [.bool s1,.int .u64 x1,.int .u64 y1,.pointer p1]).cell? ⟨g,i*4+k,none⟩=some ([Value.bool s1,.int .u64 x1,.int .u64 y1,.pointer p1][k]'hk):=fun k hk =>
 World.cell?_setCells_in g [.bool s1,.int .u64 x1,.int .u64 y1,.pointer p1] (i*4) w (fun j hj=>some4 j hj) k hk
have hout:∀ o,o<i*4∨i*4+4≤o→(w.setCells g (i*4) [.bool s1,.int .u64 x1,.int .u64 y1,.pointer p1]).cell? ⟨g,o,none⟩=w.cell? ⟨g,o,none⟩:=fun o ho=>World.cell?_setCells_out g _ (i*4) w _ (fun _ _=>by simp;omega)
have keep:∀ o s x y p,o+4≤i*4∨i*4+4≤o→P4o w g o s x y p→P4o (w.setCells g (i*4) [.bool s1,.int .u64 x1,.int .u64 y1,.pointer p1]) g o s x y p:=fun o s x y p ho hp=>⟨(hout o (by omega)).trans hp.1,(hout (o+1) (by omega)).trans hp.2.1,(hout (o+2) (by omega)).trans hp.2.2.1,(hout (o+3) (by omega)).trans hp.2.2.2⟩
have hfr:∀ {v f},aq w v f→aq (w.setCells g (i*4) [.bool s1,.int .u64 x1,.int .u64 y1,.pointer p1]) v f:=fun hf=>hf.over hc hb
refine⟨fun j hj=>?_,fun o=>by rw[World.frozen?_setCells];exact h.loose o⟩
unfold zda
by_cases e:j=i
·subst e
 rw[if_pos rfl]
 exact⟨s1,x1,y1,p1,⟨hin 0 (by omega),hin 1 (by omega),hin 2 (by omega),hin 3 (by omega)⟩,hfr h1⟩
·rw[if_neg e]
 obtain⟨t1,u1,v1,q1,b1,f1⟩:=h.told j hj
 exact⟨t1,u1,v1,q1,keep _ _ _ _ _ (by omega) b1,hfr f1⟩)
theorem iy.zcq {w:World} {g n:Nat} {F:Nat→Rat} (h:iy w g n F):au w (.slice (some ⟨g,0,none⟩) n n) ((List.range n).map F) :=
 uj.zcq ⟨fun j h1 h2=>by omega,h.told,h.loose⟩
end Go.Proofs.YtpmjeclpkahkmaaGreatDoor
