/- A fraction's text, as the Go text of pac -/
import Derived.Test.YtagmkkiagjmimaaGreatDoorSBX
import Derived.Test.YtagmkkiagjmimaaGreatDoorSF13
namespace Go.Proofs.YtagmkkiagjmimaaGreatDoor
open Go.Proofs.Tryz
open Go.RowKit
set_option maxHeartbeats 8000000
set_option maxRecDepth 100000
def oz (s:Bool) (p q:Nat):ByteArray:=(if s then ⟨#[45]⟩++⟨(Lib.decDigits p).toArray⟩ else ⟨(Lib.decDigits p).toArray⟩)++(if q=1 then ⟨#[]⟩ else ⟨#[47]⟩++⟨(Lib.decDigits q).toArray⟩)
theorem zex (u:Nat) (h:(wd 18446744073709551616 u).length≤1000000):(Lib.decDigits u).length≤20000000:=by(
 rcases Nat.eq_zero_or_pos u with rfl | h0
 ·rw[Lib.decDigits_length,Lib.nDigits_small (by omega)];omega
 ·rw[← zfz u h0,List.length_reverse];exact zwo u 1000000 h)
theorem qje (t:ByteArray):t++⟨#[]⟩=t:=by
 cases t;simp[ByteArray.ext_iff]
theorem zdi (v:Value) (f:Rat) (w:World) (hf:am w v f) (hL:Len f 1000000) (htab:Lib.TabIs prog w "internal/strconv.uint64pow10" .u64 Lib.pow10Tab) (t:ByteArray) (ht:Hid (t=oz (decide (f.num<0)) f.num.natAbs f.den)) :
   Calls prog 11 #[v] w fun e w'=>e=.returned (.string t)∧But [] w w':=by(
 have hq0:=den_pos f
 obtain⟨hN,hD⟩:=hL
 obtain⟨tp,htp⟩:∃ tp:ByteArray,tp=⟨(Lib.decDigits f.num.natAbs).toArray⟩:=⟨_,rfl⟩
 obtain⟨tq,htq⟩:∃ tq:ByteArray,tq=⟨(Lib.decDigits f.den).toArray⟩:=⟨_,rfl⟩
 have sp:tp.size≤20000000:=by rw[htp];exact zex _ hN
 have sq:tq.size≤20000000:=by rw[htq];exact zex _ hD
 have HNU:Hid (∀ W,But [] w W→Calls prog 62 #[v] W fun e w'=>∃ v1 v2,e=.returned (.tuple #[v1,v2])∧Sl .u64 w' v1 (wd 18446744073709551616 f.num.natAbs)∧Sl .u64 w' v2 (wd 18446744073709551616 f.den)∧But [] W w'):=fun W hb=>kz v f W (hf.but hb)
 have T1:Hid (∀ W v1,But [] w W→Sl .u64 W v1 (wd 18446744073709551616 f.num.natAbs)→Calls prog 63 #[v1] W fun e w'=>e=.returned (.string tp)∧But [] W w'):=fun W v1 hb h=>zik v1 _ W h hN (TabIs.but htab hb) tp htp
 have T2:Hid (∀ W v1,But [] w W→Sl .u64 W v1 (wd 18446744073709551616 f.den)→Calls prog 63 #[v1] W fun e w'=>e=.returned (.string tq)∧But [] W w'):=fun W v1 hb h=>zik v1 _ W h hD (TabIs.but htab hb) tq htq
 have HT:Hid (t=(if decide (f.num<0) then ⟨#[45]⟩++tp else tp)++(if f.den=1 then ⟨#[]⟩ else ⟨#[47]⟩++tq)):=by show _=_;rw[ae ht,oz,htp,htq]
 have ONE:Hid (∀ W v1 (r:Bool),Hid (r=decide (f.den=1))→Sl .u64 W v1 (wd 18446744073709551616 f.den)→Calls prog 64 #[v1] W fun e w'=>e=.returned (.bool r)∧w'=W):=fun W v1 r hr h=>dm v1 _ W h (by omega) r hr
 obtain⟨x,y,p,rfl,-⟩:=hf.agg
 have hbw:But [] w (w.alloc (.cells #[.bool (decide (f.num<0)),.int .u64 x,.int .u64 y,.pointer p] 27)):=(But.refl _ _).alloc _
 clear htp htq ht htab hN hD hf
 generalize hs:decide (f.num<0)=s at *
 clear hs
 go_enter func11,ntmps11
 go_wp2_with fail
 refine (ae HNU _ hbw).mono ?_
 rintro e w1 ⟨v1,v2,rfl,hv1,hv2,hb1⟩
 have B1:=af (hbw.trans' hb1)
 have HV1:=af hv1
 have HV2:=af hv2
 have c0:=hb1.ag (show (w.alloc (.cells #[.bool s,.int .u64 x,.int .u64 y,.pointer p] 27)).cell? ⟨w.heap.size,0,none⟩=some (.bool s) by simp) (by simp)
 clear hv1 hv2 hb1
 go_wp2_with fail
 refine (ae T1 _ v1 (ae B1) (ae HV1)).mono ?_
 rintro e w2 ⟨rfl,hb2⟩
 have d0:=hb2.ag c0 (by simp)
 have B2:Hid (But [] w w2):=(ae B1).trans' hb2
 have HV3:=af ((ae HV2).ah hb2)
 clear hb2 c0 HV2 hbw
 cases s
 all_goals(
 go_wp2_with fail
 by_cases hq1:f.den=1
 ·(
 refine (ae ONE _ v2 true (by show true=_;simp[hq1]) (ae HV3)).mono ?_
 rintro e w3 ⟨rfl,hw⟩
 obtain rfl:=hw.symm
 clear hw
 go_wp2
 go_ret
 exact⟨by rw[ae HT,if_pos hq1,qje];rfl,ae B2⟩)
 ·(
 refine (ae ONE _ v2 false (by show false=_;simp[hq1]) (ae HV3)).mono ?_
 rintro e w3 ⟨rfl,hw⟩
 obtain rfl:=hw.symm
 clear hw
 go_wp2_with fail
 refine (ae T2 _ v2 (ae B2) (ae HV3)).mono ?_
 rintro e w3 ⟨rfl,hb3⟩
 go_wp2
 go_ret
 exact⟨by rw[ae HT,if_neg hq1];rfl,(ae B2).trans' hb3⟩)))
theorem qiq (s:Bool) (p q:Nat) (hq:0<q) (hc:Nat.Coprime p q):∃ f:Rat,f.num=sgn s p∧f.den=q :=
 ⟨⟨sgn s p,q,by omega,by rw[jd];exact hc⟩,rfl,rfl⟩
theorem qge (x y:Nat) (hy:0<y):Nat.Coprime (x/Nat.gcd x y) (y/Nat.gcd x y):=Nat.coprime_div_gcd_div_gcd (Nat.gcd_pos_of_pos_right _ hy)
theorem zks {f:Rat} {m n:Nat} (h1:f.num.natAbs < 18446744073709551616^m) (h2:f.den < 18446744073709551616^n) (k:Nat) (hm:m≤k) (hn:n≤k):Len f k :=
 ⟨Nat.le_trans (aj (by omega) _ _ h1) hm,Nat.le_trans (aj (by omega) _ _ h2) hn⟩
theorem Len.mono {f:Rat} {m n:Nat} (h:Len f m) (hn:m≤n):Len f n:=⟨Nat.le_trans h.1 hn,Nat.le_trans h.2 hn⟩
theorem Len.lt {f:Rat} {m:Nat} (h:Len f m):f.num.natAbs < 18446744073709551616^m∧f.den < 18446744073709551616^m:=⟨ak (by omega) _ _ h.1,ak (by omega) _ _ h.2⟩
theorem zdf {f g:Rat} {m n:Nat} (h1:Len f m) (h2:Len g n) (k:Nat) (hk:m+n≤k):Len (f*g) k:=by(
 obtain⟨a1,a2⟩:=h1.lt
 obtain⟨c1,c2⟩:=h2.lt
 obtain⟨e1,e2⟩:=zot f g _ _ rfl rfl
 refine zks (m:=m+n) (n:=m+n) ?_ ?_ k hk hk
 ·rw[e1,jd,Nat.pow_add]
  exact Nat.mul_lt_mul'' (Nat.lt_of_le_of_lt (Nat.div_le_self _ _) a1) (Nat.lt_of_le_of_lt (Nat.div_le_self _ _) c1)
 ·rw[e2,Nat.pow_add]
  exact Nat.mul_lt_mul'' (Nat.lt_of_le_of_lt (Nat.div_le_self _ _) a2) (Nat.lt_of_le_of_lt (Nat.div_le_self _ _) c2))
theorem zox {f g:Rat} {m n:Nat} (h1:Len f m) (h2:Len g n) (k:Nat) (hk:m+n+1≤k):Len (f+g) k:=by(
 obtain⟨a1,a2⟩:=h1.lt
 obtain⟨c1,c2⟩:=h2.lt
 obtain⟨M,s,hM⟩:∃ (M:Nat) (s:Bool),f.num*(g.den/Nat.gcd f.den g.den:Nat)+g.num*(f.den/Nat.gcd f.den g.den:Nat)=sgn s M:=by
  generalize f.num*(g.den/Nat.gcd f.den g.den:Nat)+g.num*(f.den/Nat.gcd f.den g.den:Nat)=z
  by_cases hz:z<0
  ·exact⟨z.natAbs,true,by simp[sgn];omega⟩
  ·exact⟨z.natAbs,false,by simp[sgn];omega⟩
 obtain⟨e1,e2⟩:=zpm f g s M _ _ rfl rfl hM
 have hMl:M < 18446744073709551616^(m+n+1):=by
  have h3:M≤f.num.natAbs*(g.den/Nat.gcd f.den g.den)+g.num.natAbs*(f.den/Nat.gcd f.den g.den):=by
   rw[← jd s M,← hM]
   refine Nat.le_trans (Int.natAbs_add_le _ _) ?_
   rw[Int.natAbs_mul,Int.natAbs_mul,Int.natAbs_natCast,Int.natAbs_natCast]
   exact Nat.le_refl _
  have h4:f.num.natAbs*(g.den/Nat.gcd f.den g.den) < 18446744073709551616^m * 18446744073709551616^n:=Nat.mul_lt_mul'' a1 (Nat.lt_of_le_of_lt (Nat.div_le_self _ _) c2)
  have h5:g.num.natAbs*(f.den/Nat.gcd f.den g.den) < 18446744073709551616^n * 18446744073709551616^m:=Nat.mul_lt_mul'' c1 (Nat.lt_of_le_of_lt (Nat.div_le_self _ _) a2)
  rw[Nat.mul_comm (18446744073709551616^n)] at h5
  rw[Nat.pow_succ,Nat.pow_add]
  generalize 18446744073709551616^m * 18446744073709551616^n=P at *
  omega
 refine zks (m:=m+n+1) (n:=m+n) ?_ ?_ k hk (by omega)
 ·rw[e1,jd];exact Nat.lt_of_le_of_lt (Nat.div_le_self _ _) hMl
 ·rw[e2,Nat.pow_add]
  exact Nat.mul_lt_mul'' (Nat.lt_of_le_of_lt (Nat.div_le_self _ _) a2) (Nat.lt_of_le_of_lt (Nat.div_le_self _ _) c2))
theorem qgc {f:Rat} {m:Nat} (h:Len f m):Len (-f) m:=by(
 unfold Len
 rw[Rat.neg_num,Rat.neg_den,Int.natAbs_neg]
 exact h)
theorem qgb {f g:Rat} {m n:Nat} (h1:Len f m) (h2:Len g n) (k:Nat) (hk:m+n+1≤k):Len (f-g) k:=by
 rw[Rat.sub_eq_add_neg];exact zox h1 (qgc h2) k hk
theorem qiv (x y:Int) (p q k:Nat) (hx:x.natAbs=p*k) (hy:y.natAbs=q*k):sgn (decide (x<0) != decide (y<0)) p*y=x*q:=by(
 have ex:x=sgn (decide (x<0)) (p*k):=by
  by_cases h:x<0
  ·simp[sgn,h];omega
  ·simp[sgn,h];omega
 have ey:y=sgn (decide (y<0)) (q*k):=by
  by_cases h:y<0
  ·simp[sgn,h];omega
  ·simp[sgn,h];omega
 generalize decide (x<0)=a at *
 generalize decide (y<0)=b at *
 rw[ex,ey]
 cases a <;> cases b <;> simp[sgn,Int.natCast_mul] <;> grind)
theorem zhs (x y:Int) (hx1:-9223372036854775808≤x) (hx2:x<9223372036854775808) (hy1:-9223372036854775808≤y) (hy2:y<9223372036854775808) (hy0:y≠0) :
   ∃ (f:Rat) (r:Bool) (p q:Int),Len f 1∧f.num*y=x*f.den∧(∀ W,am W (.agg #[.bool r,.int .u64 p,.int .u64 q,.pointer none]) f)∧∀ W,Calls prog 60 #[.int .i64 x,.int .i64 y] W fun e w'=>e=.returned (.tuple #[.agg #[.bool r,.int .u64 p,.int .u64 q,.pointer none],.nilIface])∧But [] W w':=by(
 have hyp:0<y.natAbs:=by omega
 have hg:0<Nat.gcd x.natAbs y.natAbs:=Nat.gcd_pos_of_pos_right _ hyp
 have hd1:=Nat.div_mul_cancel (Nat.gcd_dvd_left x.natAbs y.natAbs)
 have hd2:=Nat.div_mul_cancel (Nat.gcd_dvd_right x.natAbs y.natAbs)
 have hq0:0<y.natAbs/Nat.gcd x.natAbs y.natAbs:=Nat.div_pos (Nat.le_of_dvd hyp (Nat.gcd_dvd_right _ _)) hg
 have hpB:x.natAbs/Nat.gcd x.natAbs y.natAbs < 18446744073709551616:=Nat.lt_of_le_of_lt (Nat.div_le_self _ _) (by omega)
 have hqB:y.natAbs/Nat.gcd x.natAbs y.natAbs < 18446744073709551616:=Nat.lt_of_le_of_lt (Nat.div_le_self _ _) (by omega)
 obtain⟨f,hn,hd⟩:=qiq (decide (x<0) != decide (y<0)) _ _ hq0 (qge x.natAbs y.natAbs hyp)
 have habs:f.num.natAbs=x.natAbs/Nat.gcd x.natAbs y.natAbs:=by rw[hn,jd]
 refine⟨f,decide (f.num<0),(f.num.natAbs:Int),(f.den:Int)-1,?_,?_,fun W=>.inl ⟨by rw[habs];exact hpB,by rw[hd];exact hqB,rfl⟩,fun W=>?_⟩
 ·exact zks (m:=1) (n:=1) (by rw[habs,Nat.pow_one];exact hpB) (by rw[hd,Nat.pow_one];exact hqB) 1 (Nat.le_refl _) (Nat.le_refl _)
 ·rw[hn,hd]
  exact qiv x y _ _ _ hd1.symm hd2.symm
 ·rw[habs,hd]
  exact zul x y hx1 hx2 hy1 hy2 hy0 W _ _ _ (by show _=_;rw[hn,zcy]) rfl rfl)
theorem zkm (x y:Int) (hx1:-9223372036854775808≤x) (hx2:x<9223372036854775808) (hy1:-9223372036854775808≤y) (hy2:y<9223372036854775808) :
   ∃ (f:Rat) (r:Bool) (p q:Int),Len f 1∧f.num*(if y=0 then 1 else y)=x*f.den∧(∀ W,am W (.agg #[.bool r,.int .u64 p,.int .u64 q,.pointer none]) f)∧∀ W,Calls prog 9 #[.agg #[.int .i64 x,.int .i64 y]] W fun e w'=>e=.returned (.agg #[.bool r,.int .u64 p,.int .u64 q,.pointer none])∧But [] W w':=by(
 by_cases hy0:y=0
 ·(
 subst hy0
 obtain⟨f,r,p,q,h1,h2,h3,h4⟩:=zhs x 1 hx1 hx2 (by omega) (by omega) (by omega)
 refine⟨f,r,p,q,h1,by rw[if_pos rfl];exact h2,h3,fun w=>?_⟩
 have OF:=af h4
 clear h1 h2 h3 h4
 go_enter func9,ntmps9
 go_wp2_with fail
 obtain⟨W,hW⟩:∃ W,W=(w.alloc (.cells #[.int .i64 x,.int .i64 1] 23)).alloc (.cells #[.bool false,.int .u64 0,.int .u64 0,.pointer none] 27):=⟨_,rfl⟩
 have r0:W.cell? ⟨w.heap.size+1,0,none⟩=some (.bool false):=by rw[hW];simp
 have r1:W.cell? ⟨w.heap.size+1,1,none⟩=some (.int .u64 0):=by rw[hW];simp
 have r2:W.cell? ⟨w.heap.size+1,2,none⟩=some (.int .u64 0):=by rw[hW];simp
 have r3:W.cell? ⟨w.heap.size+1,3,none⟩=some (.pointer none):=by rw[hW];simp
 have fz:∀ j,W.frozen? ⟨w.heap.size+1,j,none⟩=false:=fun j=>by rw[hW];simp
 have hB:But [] w W:=by rw[hW];exact ((But.refl _ _).alloc _).alloc _
 rw[← hW]
 clear hW
 obtain⟨gr,hgr⟩:∃ gr,gr=w.heap.size+1:=⟨_,rfl⟩
 rw[← hgr] at r0 r1 r2 r3 fz
 rw[← hgr]
 have HGR:Hid (w.heap.size≤gr):=by show _≤_;omega
 clear hgr
 have grl:gr<W.heap.size:=ai r0
 refine (ae OF _).mono ?_
 rintro e w1 ⟨rfl,hb1⟩
 have u0:=hb1.ag r0 (by simp)
 have u1:=hb1.ag r1 (by simp)
 have u2:=hb1.ag r2 (by simp)
 have u3:=hb1.ag r3 (by simp)
 have uf:∀ j,w1.frozen? ⟨gr,j,none⟩=false:=fun j=>(hb1.frozen (p:=⟨gr,j,none⟩) grl (by simp)).trans (fz j)
 have HB1:Hid (But [] w w1):=hB.trans' hb1
 have gl1:gr<w1.heap.size:=ai u0
 clear hb1 hB r0 r1 r2 r3 fz grl
 go_wp2
 have hBf:=(((((ae HB1).setCell (p:=⟨gr,0,none⟩) (.inr (ae HGR)) (.bool r)).setCell (p:=⟨gr,1,none⟩) (.inr (ae HGR)) (.int .u64 p)).setCell (p:=⟨gr,2,none⟩) (.inr (ae HGR)) (.int .u64 q)).setCell (p:=⟨gr,3,none⟩) (.inr (ae HGR)) (.pointer none)).alloc (.cells #[.bool r,.int .u64 p,.int .u64 q,.pointer none] 27)
 exact bodyPost_ret (v:=.agg #[.bool r,.int .u64 p,.int .u64 q,.pointer none]) (by simp[results,results9,go_sem,u0,u1,u2,u3,gl1]) rfl ⟨rfl,hBf⟩)
 ·(
 obtain⟨f,r,p,q,h1,h2,h3,h4⟩:=zhs x y hx1 hx2 hy1 hy2 hy0
 refine⟨f,r,p,q,h1,by rw[if_neg hy0];exact h2,h3,fun w=>?_⟩
 have n0:(y==0)=false:=by simp[hy0]
 have OF:=af h4
 clear h1 h2 h3 h4
 go_enter func9,ntmps9
 go_wp2_with fail
 obtain⟨W,hW⟩:∃ W,W=(w.alloc (.cells #[.int .i64 x,.int .i64 y] 23)).alloc (.cells #[.bool false,.int .u64 0,.int .u64 0,.pointer none] 27):=⟨_,rfl⟩
 have r0:W.cell? ⟨w.heap.size+1,0,none⟩=some (.bool false):=by rw[hW];simp
 have r1:W.cell? ⟨w.heap.size+1,1,none⟩=some (.int .u64 0):=by rw[hW];simp
 have r2:W.cell? ⟨w.heap.size+1,2,none⟩=some (.int .u64 0):=by rw[hW];simp
 have r3:W.cell? ⟨w.heap.size+1,3,none⟩=some (.pointer none):=by rw[hW];simp
 have fz:∀ j,W.frozen? ⟨w.heap.size+1,j,none⟩=false:=fun j=>by rw[hW];simp
 have hB:But [] w W:=by rw[hW];exact ((But.refl _ _).alloc _).alloc _
 rw[← hW]
 clear hW
 obtain⟨gr,hgr⟩:∃ gr,gr=w.heap.size+1:=⟨_,rfl⟩
 rw[← hgr] at r0 r1 r2 r3 fz
 rw[← hgr]
 have HGR:Hid (w.heap.size≤gr):=by show _≤_;omega
 clear hgr
 have grl:gr<W.heap.size:=ai r0
 refine (ae OF _).mono ?_
 rintro e w1 ⟨rfl,hb1⟩
 have u0:=hb1.ag r0 (by simp)
 have u1:=hb1.ag r1 (by simp)
 have u2:=hb1.ag r2 (by simp)
 have u3:=hb1.ag r3 (by simp)
 have uf:∀ j,w1.frozen? ⟨gr,j,none⟩=false:=fun j=>(hb1.frozen (p:=⟨gr,j,none⟩) grl (by simp)).trans (fz j)
 have HB1:Hid (But [] w w1):=hB.trans' hb1
 have gl1:gr<w1.heap.size:=ai u0
 clear hb1 hB r0 r1 r2 r3 fz grl
 go_wp2
 have hBf:=(((((ae HB1).setCell (p:=⟨gr,0,none⟩) (.inr (ae HGR)) (.bool r)).setCell (p:=⟨gr,1,none⟩) (.inr (ae HGR)) (.int .u64 p)).setCell (p:=⟨gr,2,none⟩) (.inr (ae HGR)) (.int .u64 q)).setCell (p:=⟨gr,3,none⟩) (.inr (ae HGR)) (.pointer none)).alloc (.cells #[.bool r,.int .u64 p,.int .u64 q,.pointer none] 27)
 exact bodyPost_ret (v:=.agg #[.bool r,.int .u64 p,.int .u64 q,.pointer none]) (by simp[results,results9,go_sem,u0,u1,u2,u3,gl1]) rfl ⟨rfl,hBf⟩))
theorem bj (n:Int):((n:Int):Rat).num=n∧((n:Int):Rat).den=1:=⟨by simp,by simp⟩
theorem zgk (n:Int) (h:n.natAbs < 18446744073709551616):Len ((n:Int):Rat) 1:=by
 obtain⟨h1,h2⟩:=bj n
 exact zks (m:=1) (n:=1) (by rw[h1,Nat.pow_one];exact h) (by rw[h2];decide) 1 (Nat.le_refl _) (Nat.le_refl _)
theorem zat (x:Int) (h1:-9223372036854775808≤x) (h2:x<9223372036854775808) :
   ∃ (r:Bool) (p:Int),(∀ W,am W (.agg #[.bool r,.int .u64 p,.int .u64 0,.pointer none]) ((x:Int):Rat))∧∀ W,Calls prog 79 #[.int .i64 x] W fun e w'=>e=.returned (.agg #[.bool r,.int .u64 p,.int .u64 0,.pointer none])∧But [] W w':=by(
 obtain⟨e1,e2⟩:=bj x
 refine⟨decide (x<0),((x.natAbs:Nat):Int),fun W=>.inl ⟨by rw[e1];omega,by rw[e2];decide,by rw[e1,e2];rfl⟩,fun W=>?_⟩
 have h:=zwz x h1 h2 W
 rw[show (((1:Nat):Int)-1)=0 from rfl] at h
 exact h)
theorem zzl (x:Rat):x*((x.den:Int):Rat)=((x.num:Int):Rat):=by(
 obtain⟨i1,i2⟩:=bj (x.den:Int)
 obtain⟨j1,j2⟩:=bj x.num
 have h:=sj x ((x.den:Int):Rat)
 rw[i1,i2,Nat.mul_one] at h
 have hd:=den_pos x
 obtain⟨e1,e2⟩:=ay x.num 1 (by omega) (by simp) (x*((x.den:Int):Rat)) (by
  refine Int.eq_of_mul_eq_mul_right (show (x.den:Int)≠0 by omega) ?_
  grind)
 exact Rat.ext (by rw[e1,j1]) (by rw[e2,j2]))
theorem int_ne (z:Int) (h:z≠0):((z:Int):Rat)≠0:=fun e=>h (by
 have:=congrArg Rat.num e
 rwa [(bj z).1] at this)
def qf (q:Int × Int):Rat:=((q.1:Int):Rat)/(((if q.2=0 then 1 else q.2):Int):Rat)
theorem qgp (f:Rat) (q:Int × Int) (h:f.num*(if q.2=0 then 1 else q.2)=q.1*f.den):f=qf q:=by(
 unfold qf
 have hy:(if q.2=0 then (1:Int) else q.2)≠0:=by split <;> omega
 generalize (if q.2=0 then (1:Int) else q.2)=y at *
 have h1:=zzl f
 have h2:((f.num*y:Int):Rat)=((q.1*(f.den:Int):Int):Rat):=by rw[h]
 rw[Rat.intCast_mul,Rat.intCast_mul] at h2
 have hd:=int_ne (f.den:Int) (by have:=den_pos f;omega)
 have hy':=int_ne y hy
 generalize ((y:Int):Rat)=Y at *
 generalize ((f.den:Int):Rat)=D at *
 generalize ((f.num:Int):Rat)=M at *
 generalize ((q.1:Int):Rat)=X at *
 rw[← h1] at h2
 grind)
def Fits (q:Int × Int):Prop:=-9223372036854775808≤q.1∧q.1<9223372036854775808∧-9223372036854775808≤q.2∧q.2<9223372036854775808
theorem zhk (q:Int × Int) (h:Fits q):∃ (r:Bool) (x y:Int),Len (qf q) 1∧(∀ W,am W (.agg #[.bool r,.int .u64 x,.int .u64 y,.pointer none]) (qf q))∧∀ W,Calls prog 9 #[.agg #[.int .i64 q.1,.int .i64 q.2]] W fun e w'=>e=.returned (.agg #[.bool r,.int .u64 x,.int .u64 y,.pointer none])∧But [] W w':=by(
 obtain⟨f,r,x,y,h1,h2,h3,h4⟩:=zkm q.1 q.2 h.1 h.2.1 h.2.2.1 h.2.2.2
 have e:=qgp f q h2
 subst e
 exact⟨r,x,y,h1,h3,h4⟩)
def zss (w:World) (v:Value) (qs:List (Int × Int)):Prop:=∃ a cap,v=.slice a qs.length cap∧qs.length≤cap∧∀ i q,qs[i]? = some q→∃ b off,a=some ⟨b,off,none⟩∧w.cell? ⟨b,off+i*2,none⟩=some (.int .i64 q.1)∧w.cell? ⟨b,off+i*2+1,none⟩=some (.int .i64 q.2)
theorem zss.but {w w':World} {v:Value} {qs:List (Int × Int)} (h:zss w v qs) (hb:But [] w w'):zss w' v qs:=by(
 obtain⟨a,cap,e,hc,h⟩:=h
 refine⟨a,cap,e,hc,fun i q hq=>?_⟩
 obtain⟨b,off,e1,h1,h2⟩:=h i q hq
 exact⟨b,off,e1,hb.ag h1 (by simp),hb.ag h2 (by simp)⟩)
theorem zso (w:World) (base:Nat) (v:Value) (k:Nat) (vs:List Value) (hown:w.ownsRow base 27 4 v k (zad vs)) (g:Nat) (s:Bool) (x y:Int) (p:Option Addr) (c:P4 w g s x y p) (hk:k<1000000) (hb:base≤w.heap.size) :
   ∃ v' w',(Builtin.append_ #[46,46] 46 #[v,.slice (some ⟨g,0,none⟩) 1 1]).run prog w=.ok v' w'∧w'.ownsRow base 27 4 v' (k+1) (zad (vs++[.agg #[.bool s,.int .u64 x,.int .u64 y,.pointer p]]))∧w.grownBy w' v.ownBlock:=by(
 obtain⟨i0,hi,hz0,hz1,hz2⟩:=znf
 obtain⟨v',w',hr,ho,hg,-⟩:=run_append_own (P:=prog) w base 46 46 27 i0 _ 4 32 underlying46 hi hz0 hz1 hz2 rfl (by decide) v k (zad vs) hown ⟨g,0,none⟩ 1 1 [.bool s,.int .u64 x,.int .u64 y,.pointer p] rfl (fun j u hj=>by
   have:j=0∨j=1∨j=2∨j=3∨4≤j:=by omega
   obtain⟨c0,c1,c2,c3⟩:=c
   rcases this with rfl|rfl|rfl|rfl | h4
   ·simp at hj;subst hj;exact c0
   ·simp at hj;subst hj;exact c1
   ·simp at hj;subst hj;exact c2
   ·simp at hj;subst hj;exact c3
   ·rw[List.getElem?_eq_none (by simpa using h4)] at hj;simp at hj) (fun u hu=>by
   simp only[List.mem_cons,List.not_mem_nil,or_false] at hu
   rcases hu with rfl|rfl|rfl|rfl <;> rfl) (by unfold maxLen;omega) (by omega) hb
 refine⟨v',w',hr,?_,hg⟩
 rw[zmc]
 exact ho)
set_option linter.unusedVariables false
structure zcd (w:World) (g n i:Nat) (F:Nat→Rat):Prop where
 blank:∀ j,i≤j→j<n→P4o w g (j*4) false 0 0 none
 told:∀ j,j<i→zce w g (j*4) (F j)
 loose:∀ o,w.frozen? ⟨g,o,none⟩=false
theorem zcd.made (w:World) (n:Nat) (F:Nat→Rat):zcd (w.alloc (.cells (madeCells #[Value.bool false,.int .u64 0,.int .u64 0,.pointer none] (n*4)) 27)) w.heap.size n 0 F:=by(
 have hc:∀ j k,j<n→k<4→(w.alloc (.cells (madeCells #[Value.bool false,.int .u64 0,.int .u64 0,.pointer none] (n*4)) 27)).cell? ⟨w.heap.size,j*4+k,none⟩=(#[Value.bool false,.int .u64 0,.int .u64 0,.pointer none]:Array Value)[k]?:=fun j k hj hk=>by
  rw[World.cell?_alloc_new,zyv n _ (by omega),show (j*4+k)%4=k from by omega]
 exact⟨fun j _ hj=>⟨hc j 0 hj (by omega),hc j 1 hj (by omega),hc j 2 hj (by omega),hc j 3 hj (by omega)⟩,fun j hj=>by omega,fun o=>by simp⟩)
theorem zcd.but {w w':World} {g n i:Nat} {F:Nat→Rat} (h:zcd w g n i F) (hb:But [] w w') (hg:g<w.heap.size):zcd w' g n i F :=
 ⟨fun j h1 h2=>(h.blank j h1 h2).but hb (by simp),fun j hj=>(h.told j hj).but hb,fun o=>(hb.frozen (p:=⟨g,o,none⟩) hg (by simp)).trans (h.loose o)⟩
theorem zcd.bool {w:World} {g n i:Nat} {F:Nat→Rat} (h:zcd w g n i F) (h0:0<n):∃ s,w.cell? ⟨g,0,none⟩=some (.bool s):=by(
 rcases Nat.eq_zero_or_pos i with e | e
 ·subst e
  have a:=h.blank 0 (Nat.le_refl _) h0
  rw[Nat.zero_mul] at a
  exact⟨_,a.1⟩
 ·obtain⟨s,x,y,p,a,-⟩:=h.told 0 e
  rw[Nat.zero_mul] at a
  exact⟨_,a.1⟩)
theorem zcd.next {w:World} {g n i:Nat} {F:Nat→Rat} (h:zcd w g n i F) (hi:i<n) (s1:Bool) (x1 y1:Int) (p1:Option Addr) (h1:am w (.agg #[.bool s1,.int .u64 x1,.int .u64 y1,.pointer p1]) (F i)) :
   zcd (w.setCells g (i*4) [.bool s1,.int .u64 x1,.int .u64 y1,.pointer p1]) g n (i+1) F:=by(
 obtain⟨c,hc⟩:=h.bool (by omega)
 have a1:=h.blank i (Nat.le_refl _) hi
 have hb:=bk w g [.bool s1,.int .u64 x1,.int .u64 y1,.pointer p1] (i*4)
 have some4:∀ k,k<4→(w.cell? ⟨g,i*4+k,none⟩).isSome=true:=fun k hk=>by
  have:k=0∨k=1∨k=2∨k=3:=by omega
  rcases this with rfl|rfl|rfl|rfl
  ·rw[show i*4+0=i*4 from rfl,a1.1];rfl
  ·rw[a1.2.1];rfl
  ·rw[a1.2.2.1];rfl
  ·rw[a1.2.2.2];rfl
 have hin:∀ k (hk:k<4),(w.setCells g (i*4) [.bool s1,.int .u64 x1,.int .u64 y1,.pointer p1]).cell? ⟨g,i*4+k,none⟩=some ([Value.bool s1,.int .u64 x1,.int .u64 y1,.pointer p1][k]'hk):=fun k hk =>
  World.cell?_setCells_in g [.bool s1,.int .u64 x1,.int .u64 y1,.pointer p1] (i*4) w (fun j hj=>some4 j hj) k hk
 have hout:∀ o,o<i*4∨i*4+4≤o→(w.setCells g (i*4) [.bool s1,.int .u64 x1,.int .u64 y1,.pointer p1]).cell? ⟨g,o,none⟩=w.cell? ⟨g,o,none⟩:=fun o ho=>World.cell?_setCells_out g _ (i*4) w _ (fun _ _=>by simp;omega)
 have keep:∀ o s x y p,o+4≤i*4∨i*4+4≤o→P4o w g o s x y p→P4o (w.setCells g (i*4) [.bool s1,.int .u64 x1,.int .u64 y1,.pointer p1]) g o s x y p:=fun o s x y p ho hp=>⟨(hout o (by omega)).trans hp.1,(hout (o+1) (by omega)).trans hp.2.1,(hout (o+2) (by omega)).trans hp.2.2.1,(hout (o+3) (by omega)).trans hp.2.2.2⟩
 have hfr:∀ {v f},am w v f→am (w.setCells g (i*4) [.bool s1,.int .u64 x1,.int .u64 y1,.pointer p1]) v f:=fun hf=>hf.over hc hb
 refine⟨fun j h1 h2=>keep _ _ _ _ _ (by omega) (h.blank j (by omega) h2),fun j hj=>?_,fun o=>by rw[World.frozen?_setCells];exact h.loose o⟩
 by_cases e:j=i
 ·subst e
  exact⟨s1,x1,y1,p1,⟨hin 0 (by omega),hin 1 (by omega),hin 2 (by omega),hin 3 (by omega)⟩,hfr h1⟩
 ·obtain⟨t1,u1,v1,q1,b1,f1⟩:=h.told j (by omega)
  exact⟨t1,u1,v1,q1,keep _ _ _ _ _ (by omega) b1,hfr f1⟩)
theorem zcd.zrz {w:World} {g n:Nat} {F:Nat→Rat} (h:zcd w g n n F):aq w (.slice (some ⟨g,0,none⟩) n n) ((List.range n).map F) :=
 ⟨some ⟨g,0,none⟩,n,by simp,by simp,fun i f hf=>by
  rw[List.getElem?_map] at hf
  by_cases hi:i<n
  ·rw[List.getElem?_range hi] at hf
   simp only[Option.map_some,Option.some.injEq] at hf
   subst hf
   exact⟨g,0,rfl,by rw[Nat.zero_add];exact h.told i hi⟩
  ·rw[List.getElem?_eq_none (by simp;omega)] at hf
   simp at hf⟩
structure pq (w:World) (g n:Nat) (F:Nat→Rat):Prop where
 told:∀ j,j<n→zce w g (j*4) (F j)
 loose:∀ o,w.frozen? ⟨g,o,none⟩=false
theorem pq.made (w:World) (n:Nat):pq (w.alloc (.cells (madeCells #[Value.bool false,.int .u64 0,.int .u64 0,.pointer none] (n*4)) 27)) w.heap.size n (fun _=>0) :=
 ⟨fun j hj=>⟨false,0,0,none,(zcd.made w n (fun _=>0)).blank j (Nat.zero_le _) hj,zaj _⟩,(zcd.made w n (fun _=>0)).loose⟩
theorem pq.but {w w':World} {g n:Nat} {F:Nat→Rat} (h:pq w g n F) (hb:But [] w w') (hg:g<w.heap.size):pq w' g n F :=
 ⟨fun j hj=>(h.told j hj).but hb,fun o=>(hb.frozen (p:=⟨g,o,none⟩) hg (by simp)).trans (h.loose o)⟩
theorem pq.bool {w:World} {g n:Nat} {F:Nat→Rat} (h:pq w g n F) (h0:0<n):∃ s,w.cell? ⟨g,0,none⟩=some (.bool s):=by(
 obtain⟨s,x,y,p,a,-⟩:=h.told 0 h0
 rw[Nat.zero_mul] at a
 exact⟨_,a.1⟩)
def qfi (F:Nat→Rat) (t:Nat) (v:Rat):Nat→Rat:=fun j=>if j=t then v else F j
theorem pq.set {w:World} {g n i:Nat} {F:Nat→Rat} (h:pq w g n F) (hi:i<n) (s1:Bool) (x1 y1:Int) (p1:Option Addr) (v:Rat) (h1:am w (.agg #[.bool s1,.int .u64 x1,.int .u64 y1,.pointer p1]) v) :
   pq (w.setCells g (i*4) [.bool s1,.int .u64 x1,.int .u64 y1,.pointer p1]) g n (qfi F i v):=by(
 obtain⟨c,hc⟩:=h.bool (by omega)
 obtain⟨s0,x0,y0,p0,a1,-⟩:=h.told i hi
 have hb:=bk w g [.bool s1,.int .u64 x1,.int .u64 y1,.pointer p1] (i*4)
 have some4:∀ k,k<4→(w.cell? ⟨g,i*4+k,none⟩).isSome=true:=fun k hk=>by
  have:k=0∨k=1∨k=2∨k=3:=by omega
  rcases this with rfl|rfl|rfl|rfl
  ·rw[show i*4+0=i*4 from rfl,a1.1];rfl
  ·rw[a1.2.1];rfl
  ·rw[a1.2.2.1];rfl
  ·rw[a1.2.2.2];rfl
 have hin:∀ k (hk:k<4),(w.setCells g (i*4) [.bool s1,.int .u64 x1,.int .u64 y1,.pointer p1]).cell? ⟨g,i*4+k,none⟩=some ([Value.bool s1,.int .u64 x1,.int .u64 y1,.pointer p1][k]'hk):=fun k hk =>
  World.cell?_setCells_in g [.bool s1,.int .u64 x1,.int .u64 y1,.pointer p1] (i*4) w (fun j hj=>some4 j hj) k hk
 have hout:∀ o,o<i*4∨i*4+4≤o→(w.setCells g (i*4) [.bool s1,.int .u64 x1,.int .u64 y1,.pointer p1]).cell? ⟨g,o,none⟩=w.cell? ⟨g,o,none⟩:=fun o ho=>World.cell?_setCells_out g _ (i*4) w _ (fun _ _=>by simp;omega)
 have keep:∀ o s x y p,o+4≤i*4∨i*4+4≤o→P4o w g o s x y p→P4o (w.setCells g (i*4) [.bool s1,.int .u64 x1,.int .u64 y1,.pointer p1]) g o s x y p:=fun o s x y p ho hp=>⟨(hout o (by omega)).trans hp.1,(hout (o+1) (by omega)).trans hp.2.1,(hout (o+2) (by omega)).trans hp.2.2.1,(hout (o+3) (by omega)).trans hp.2.2.2⟩
 have hfr:∀ {v f},am w v f→am (w.setCells g (i*4) [.bool s1,.int .u64 x1,.int .u64 y1,.pointer p1]) v f:=fun hf=>hf.over hc hb
 refine⟨fun j hj=>?_,fun o=>by rw[World.frozen?_setCells];exact h.loose o⟩
 unfold qfi
 by_cases e:j=i
 ·subst e
  rw[if_pos rfl]
  exact⟨s1,x1,y1,p1,⟨hin 0 (by omega),hin 1 (by omega),hin 2 (by omega),hin 3 (by omega)⟩,hfr h1⟩
 ·rw[if_neg e]
  obtain⟨t1,u1,v1,q1,b1,f1⟩:=h.told j hj
  exact⟨t1,u1,v1,q1,keep _ _ _ _ _ (by omega) b1,hfr f1⟩)
theorem pq.zrz {w:World} {g n:Nat} {F:Nat→Rat} (h:pq w g n F):aq w (.slice (some ⟨g,0,none⟩) n n) ((List.range n).map F) :=
 zcd.zrz ⟨fun j h1 h2=>by omega,h.told,h.loose⟩
theorem zxf (v vu:Value) (fs:List Rat) (u:Rat) (w:World) (hv:aq w v fs) (hu:am w vu u) (hn:fs.length≤100000) (lf:∀ f ∈ fs,Len f 1000000) (lu:Len u 1000000) :
   Calls prog 159 #[v,vu] w fun e w'=>∃ g,e=.returned (.slice (some ⟨g,0,none⟩) fs.length fs.length)∧zcd w' g fs.length fs.length (fun i=>fs[i]?.getD 0*u)∧w.heap.size≤g∧g<w'.heap.size∧But [] w w':=by(
 obtain⟨x1,y1,p1,rfl,-⟩:=id hu.agg
 generalize hsf:decide (u.num<0)=s1 at *
 clear hsf
 obtain⟨q,cap,rfl,hcap,-⟩:=id hv
 obtain⟨n,hN⟩:∃ n,n=fs.length:=⟨_,rfl⟩
 rw[← hN] at hn hcap ⊢
 rw[← hN] at hv
 have HV:=af hv
 have HU:=af hu
 have HN:=af hN
 have hmk:=fun wx=>zmu wx n (by omega)
 clear hv hu hN
 obtain⟨A,hA⟩:∃ A,A=w.alloc (.cells #[.bool s1,.int .u64 x1,.int .u64 y1,.pointer p1] 27):=⟨_,rfl⟩
 have bA:But [] w A:=by rw[hA];exact (But.refl _ _).alloc _
 have sA:A.heap.size=w.heap.size+1:=by rw[hA];simp
 have cA:P4 A w.heap.size s1 x1 y1 p1:=by rw[hA];exact⟨by simp,by simp,by simp,by simp⟩
 obtain⟨U,hU⟩:∃ U,U=(w.alloc (.cells #[.bool s1,.int .u64 x1,.int .u64 y1,.pointer p1] 27)).alloc (.cells (madeCells #[.bool false,.int .u64 0,.int .u64 0,.pointer none] (n*4)) 27):=⟨_,rfl⟩
 have bU:But [] A U:=by rw[hU,← hA];exact (But.refl _ _).alloc _
 have rU:zcd U A.heap.size n 0 (fun i=>fs[i]?.getD 0*u):=by rw[hU,← hA];exact zcd.made A n _
 have lU:A.heap.size<U.heap.size:=by rw[hU,← hA];simp
 obtain⟨G,hG⟩:∃ G,G=w.heap.size+1:=⟨_,rfl⟩
 obtain⟨B,hB⟩:∃ B,B=w.heap.size:=⟨_,rfl⟩
 have hGA:G=A.heap.size:=by omega
 have I0:Hid (zcd U G n 0 (fun i=>fs[i]?.getD 0*u)∧P4 U B s1 x1 y1 p1∧aq U (.slice q n cap) fs∧am U (.agg #[.bool s1,.int .u64 x1,.int .u64 y1,.pointer p1]) u∧G<U.heap.size∧But [] w U) :=
  ⟨by rw[hGA];exact rU,by rw[hB];exact cA.but bU (by simp),((ae HV).but bA).but bU,((ae HU).but bA).but bU,by rw[hGA];exact lU,bA.trans' bU⟩
 have hGB:B<G:=by omega
 have hwB:w.heap.size≤B:=by omega
 clear bU rU lU bA sA cA hGA hA
 go_enter func159,ntmps159
 go_wp2
 rw[← hU]
 try rw[← hG]
 rw[← hB]
 clear hU hmk HU
 have HB:=af hB
 have HW:=af hwB
 clear hB hG hwB
 go_loopw [13] (fun i wr=>∃ k:Nat,k≤n∧i=.int .i64 (k:Int)∧Hid (zcd wr G n k (fun i=>fs[i]?.getD 0*u)∧P4 wr B s1 x1 y1 p1∧aq wr (.slice q n cap) fs∧am wr (.agg #[.bool s1,.int .u64 x1,.int .u64 y1,.pointer p1]) u∧G<wr.heap.size∧But [] w wr)) (fun i _=>n-(intOf i).toNat)
 case atStart=>exact⟨0,Nat.zero_le _,rfl,ae I0⟩
 case round =>(
 obtain⟨k,hk,rfl,HI⟩:=hrel
 rename World=>wr
 clear I0
 by_cases hlt:k<n
 ·(
 obtain⟨hrow,hbx,hfs,hfu,hG2,hb⟩:=ae HI
 have hkr:k<fs.length:=by have:=ae HN;omega
 rcases hfs.open with ⟨er,-⟩|⟨-,rb,roff,rcap2,er,-,-⟩
 ·rw[er] at hkr
  simp at hkr
 simp only[Value.slice.injEq] at er
 obtain⟨rfl,-,rfl⟩:=er
 obtain⟨sr,xr,yr,pr,⟨r0,r1,r2,r3⟩,hfr⟩:=hfs.get k hlt
 have lrk:Len (fs[k]?.getD 0) 1000000:=by rw[List.getElem?_eq_getElem hkr];exact lf _ (List.getElem_mem hkr)
 obtain⟨b0,b1,b2,b3⟩:=hbx
 have MU:=af (fun W (h:But [] wr W)=>zkx (dx _ _ _ _ W (hfr.but h) (hfu.but h) lrk lu))
 have BA:Hid (But [] wr (wr.alloc (.cells #[.bool sr,.int .u64 xr,.int .u64 yr,.pointer pr] 27))):=(But.refl _ _).alloc _
 have lB:B<wr.heap.size:=ai b0
 clear hfr lrk hrow hfs hfu hb
 go_wp2_with fail
 refine (ae MU _ (ae BA)).mono ?_
 rintro e w3 ⟨s3,x3,y3,p3,rfl,hv3,hb3⟩
 have B3:Hid (But [] wr w3):=(ae BA).trans' hb3
 have HV3:=af hv3
 have hrow3:=(ae HI).1.but (ae B3) hG2
 have R3:=af hrow3
 have pf:=hrow3.loose
 obtain⟨k0,k1,k2,k3⟩:=hrow3.blank k (Nat.le_refl _) hlt
 clear hv3 hb3 MU BA r0 r1 r2 r3 b0 b1 b2 b3 hrow3
 go_wp2
 have hS:=bk w3 G [.bool s3,.int .u64 x3,.int .u64 y3,.pointer p3] (k*4)
 obtain⟨cb,hcb⟩:=(ae R3).bool (by omega)
 have hc2:∀ g ∈ [G],∃ s,w3.cell? ⟨g,0,none⟩=some (.bool s):=fun g hg=>by simp at hg;subst hg;exact⟨_,hcb⟩
 have lw:w.heap.size≤G:=by have:=ae HW;omega
 refine⟨⟨k+1,by omega,by go_num,(ae R3).next hlt s3 x3 y3 p3 (ae HV3),((ae HI).2.1.but (ae B3) (by simp)).but hS (by simp;omega),(ae HV).behind ((ae HI).2.2.1.but (ae B3)) hS lw ⟨_,hcb⟩,((ae HI).2.2.2.1.but (ae B3)).beside hS hc2,Nat.lt_of_lt_of_le (Nat.lt_of_lt_of_le hG2 (ae B3).size) hS.size,((ae HI).2.2.2.2.2.trans' (ae B3)).trans hS (fun x hx=>by simp at hx;subst hx;exact .inr lw)⟩,by simp[intOf];omega⟩)
 ·obtain rfl:k=n:=by omega
  go_wp2
  go_ret
  exact⟨G,rfl,(ae HI).1,by have:=ae HW;omega,(ae HI).2.2.2.2.1,(ae HI).2.2.2.2.2⟩))
theorem zoj {P:Program} {id:Nat} {ops:Array Oper} {Q:Exit→Act→World→Prop} {base:Act} {W0:World} (hm:P.follows .mixedOrders=true)
   (hlow:∀ i o,ops[i]? = some o→∀ e ∈ o.after,Region.binds .any e=true→e.on<i)
   (hg:∀ (i:Nat) (o:Oper),ops[i]? = some o→o.guard=none)
   (H:World→Prop) (hH0:H W0.drew) (hHB:∀ w w',H w→But [] w w'→H w') (C:Nat→World→Value→Prop) (T:Nat→Nat) (m q ka:Nat) (hka:ka<m) (St:World→Value→Prop) (hsz:ops.size=m+1)
   (hinj:∀ i j,i<m→j<m→T i=T j→i=j) (hT:∀ i,i<m→T i<base.tmps.size)
   (hC:∀ i w w' v,i<m→C i w v→But [] w w'→C i w' v) (hCq:∀ w v,C q w v) (hSt:∀ w w' v,St w v→But [] w w'→St w' v)
   (hall:∀ i,i<m→∃ o,ops[m]? = some o∧∃ e ∈ o.after,Region.binds .any e=true∧e.on=i)
   (hqk:∃ o,ops[q]? = some o∧∃ e ∈ o.after,Region.binds .any e=true∧e.on=ka)
   (hstep:∀ (i:Nat) (o:Oper) (a:Act) (w:World) (K:Act→World→Prop),i<m→i≠q→ops[i]? = some o→H w→(∀ t,(∀ j,j<m→t≠T j)→a.eval (.tmp t)=base.eval (.tmp t))→(∀ e ∈ o.after,Region.binds .any e=true→C e.on w (a.eval (.tmp (T e.on))))→(∀ v w',But [] w w'→C i w' v→K (a.put (some (T i)) v) w')→o.wp P a w K Q)
   (hmute:∀ (o:Oper) (a:Act) (w:World) (K:Act→World→Prop),ops[q]? = some o→H w→(∀ t,(∀ j,j<m→t≠T j)→a.eval (.tmp t)=base.eval (.tmp t))→(∀ e ∈ o.after,Region.binds .any e=true→C e.on w (a.eval (.tmp (T e.on))))→(∀ w',H w'→(∀ j,j<m→∀ u,C j w u→C j w' u)→St w' (a.eval (.tmp (T ka)))→K a w')→o.wp P a w K Q)
   (Fin:Act→World→Prop)
   (hlast:∀ (d:Nat→Bool) (o:Oper) (a:Act) (w:World) (K:Act→World→Prop),ops[m]? = some o→(∀ i,i<m→d i=true)→zct base (fun _ w=>H w) C T m d a w→St w (a.eval (.tmp (T ka)))→(∀ a' w',Fin a' w'→K a' w')→o.wp P a w K Q)
   (hend:∀ a w,Fin a w→Q .normal a w) (hqm:q<m) :
   (Code.region id ops true).wp P Q base W0:=by(
 have wpo:∀ i o a w (K:Act→World→Prop),ops[i]? = some o→o.wp P a w K Q→wpOp P ops Q i K a w:=fun i o a w K ho h=>by
  unfold wpOp
  simp only[ho,Region.wanted,hg i o ho,if_true]
  exact .inl h
 refine zdb hm hlow (fun d a w=>if d m=true then (Fin a w∧∀ i,i<m→d i=true) else (zct base (fun _ w=>H w) C T m d a w∧(d q=true→d ka=true∧St w (a.eval (.tmp (T ka)))))) ?_ ?_ ?_
 ·simp only[Bool.false_eq_true,if_false]
  exact⟨⟨hH0,rfl,rfl,fun _ _=>rfl,fun _ _ h=>by simp at h⟩,fun h=>by simp at h⟩
 ·intro d a w hd h
  rw[if_pos (hd m (by omega))] at h
  exact hend a w h.1
 ·(
 intro d i o a w ho hdi hdep h
 refine wpo i o a w _ ho ?_
 have hi:i<m+1:=by rw[← hsz];exact (Array.getElem?_eq_some_iff.1 ho).1
 by_cases e:i=m
 ·(
 subst e
 rw[if_neg (by rw[hdi];simp)] at h
 have hd:∀ j,j<i→d j=true:=fun j hj=>by
  obtain⟨o',ho',ed,he,hb,rfl⟩:=hall j hj
  rw[ho] at ho'
  obtain rfl:=Option.some.inj ho'
  exact hdep ed he hb
 refine hlast d o a w _ ho hd h.1 (h.2 (hd q hqm)).2 (fun a' w' hf=>?_)
 rw[if_pos (mh d i)]
 exact⟨hf,fun j hj=>by rw[jo d (by omega)];exact hd j hj⟩)
 ·(
 have him:i<m:=by omega
 by_cases hdm:d m=true
 ·exfalso
  rw[if_pos hdm] at h
  rw[h.2 i him] at hdi
  simp at hdi
 ·(
 rw[if_neg hdm] at h
 obtain⟨h,hs⟩:=h
 have hdp:=fun (ed:Edge) (he:ed ∈ o.after) (hb:Region.binds .any ed=true)=>h.has _ (show ed.on<m by have:=hlow i o ho ed he hb;omega) (hdep ed he hb)
 by_cases eq:i=q
 ·(
 subst eq
 refine hmute o a w _ ho h.mem (fun t ht=>h.eval t ht) hdp (fun w' hB hCw hSw=>?_)
 rw[if_neg (by rw[jo d (Ne.symm e)];exact hdm)]
 refine⟨⟨hB,h.size,h.defers,h.rest,fun j hj hd=>?_⟩,fun _=>?_⟩
 ·by_cases ej:j=i
  ·rw[ej];exact hCq _ _
  ·rw[jo d ej] at hd
   exact hCw j hj _ (h.has j hj hd)
 ·(
 obtain⟨o',ho',ed,he,hb,ek⟩:=hqk
 rw[ho] at ho'
 obtain rfl:=Option.some.inj ho'
 have hk:=hdep ed he hb
 rw[ek] at hk
 have hne:ka≠i:=fun e2=>by rw[e2,hdi] at hk;simp at hk
 exact⟨by rw[jo d hne];exact hk,hSw⟩))
 ·(
 refine hstep i o a w _ him eq ho h.mem (fun t ht=>h.eval t ht) hdp (fun v w' hB hv=>?_)
 rw[if_neg (by rw[jo d (Ne.symm e)];exact hdm)]
 refine⟨h.next hinj hT i him v w' (hHB _ _ h.mem hB) (fun j hj _ u hu=>hC j w w' u hj hu hB) hv,fun hq=>?_⟩
 rw[jo d (Ne.symm eq)] at hq
 obtain⟨h1,h2⟩:=hs hq
 have hne:ka≠i:=fun e2=>by rw[e2,hdi] at h1;simp at h1
 refine⟨by rw[jo d hne];exact h1,?_⟩
 rw[zwv a (T i) (T ka) v (fun e2=>hne (hinj ka i hka him e2))]
 exact hSt w w' _ h2 hB)))))
theorem am.qbp {w W:World} {v:Value} {f:Rat} (h:am w v f) {g:Nat} {i:Int} (c0:w.cell? ⟨g,0,none⟩=some (.int .i64 i)) (hb:But [g] w W):am W v f:=by(
 rcases h with h1|⟨h1,b,v1,v2,h2,h3,h4,h5,h6⟩
 ·exact .inl h1
 ·(
 have hbg:b≠g:=by
  rintro rfl
  obtain⟨a,cap,rfl,-⟩:=h5
  rw[c0] at h3
  simp at h3
 exact .inr ⟨h1,b,v1,v2,h2,hb.ag h3 (by simpa using hbg),hb.ag h4 (by simpa using hbg),h5.over hb c0 (by simp),h6.over hb c0 (by simp)⟩))
theorem am.zwb {w W:World} {v:Value} {f:Rat} (h:am w v f) {g:Nat} {q:Option Addr} {n c:Nat} (c0:w.cell? ⟨g,0,none⟩=some (.slice q n c)) (c1:w.cell? ⟨g,1,none⟩=none) (hb:But [g] w W):am W v f:=by(
 rcases h with h1|⟨h1,b,v1,v2,h2,h3,h4,h5,h6⟩
 ·exact .inl h1
 ·(
 have hbg:b≠g:=by
  rintro rfl
  rw[c1] at h4
  simp at h4
 exact .inr ⟨h1,b,v1,v2,h2,hb.ag h3 (by simpa using hbg),hb.ag h4 (by simpa using hbg),h5.over hb c0 (by simp),h6.over hb c0 (by simp)⟩))
def zdn (z:Nat) (F:Nat→Rat) (w:World) (v:Value):Prop:=∃ g,v=.slice (some ⟨g,0,none⟩) z z∧pq w g z F∧g<w.heap.size
theorem zdn.but {z:Nat} {F:Nat→Rat} {w w':World} {v:Value} (h:zdn z F w v) (hb:But [] w w'):zdn z F w' v:=by
 obtain⟨g,e,h1,h2⟩:=h
 exact⟨g,e,h1.but hb h2,Nat.lt_of_lt_of_le h2 hb.size⟩
def zln (B:Nat) (w:World) (v:Value):Prop:=∃ b q n c,v=.pointer (some ⟨b,0,none⟩)∧B≤b∧w.cell? ⟨b,0,none⟩=some (.slice q n c)∧(b<w.heap.size∧w.cell? ⟨b,1,none⟩=none)∧w.frozen? ⟨b,0,none⟩=false
def zlo (B:Nat) (w:World) (v:Value):Prop:=∃ b i,v=.pointer (some ⟨b,0,none⟩)∧B≤b∧w.cell? ⟨b,0,none⟩=some (.int .i64 i)∧w.frozen? ⟨b,0,none⟩=false
theorem But.zzv {w w':World} {l:List Nat} (hb:But l w w') {b o:Nat} (hl:b<w.heap.size) (hn:b ∉ l) (h:w.cell? ⟨b,o,none⟩=none):w'.cell? ⟨b,o,none⟩=none:=by(
 have e:=hb.block b hl hn
 unfold World.cell? at h ⊢
 rw[e]
 exact h)
theorem zln.but {B:Nat} {w w':World} {v:Value} {l:List Nat} (h:zln B w v) (hb:But l w w') (hn:∀ b,v=.pointer (some ⟨b,0,none⟩)→b ∉ l):zln B w' v:=by
 obtain⟨b,q,n,c,e,h1,h2,⟨h3,h4⟩,h5⟩:=h
 exact⟨b,q,n,c,e,h1,hb.ag h2 (hn b e),⟨Nat.lt_of_lt_of_le h3 hb.size,hb.zzv h3 (hn b e) h4⟩,(hb.frozen (p:=⟨b,0,none⟩) h3 (hn b e)).trans h5⟩
theorem zlo.but {B:Nat} {w w':World} {v:Value} {l:List Nat} (h:zlo B w v) (hb:But l w w') (hn:∀ b,v=.pointer (some ⟨b,0,none⟩)→b ∉ l):zlo B w' v:=by
 obtain⟨b,i,e,h1,h2,h5⟩:=h
 exact⟨b,i,e,h1,hb.ag h2 (hn b e),(hb.frozen (p:=⟨b,0,none⟩) (ai h2) (hn b e)).trans h5⟩
theorem zdn.zwb {z:Nat} {F:Nat→Rat} {w w':World} {v:Value} (h:zdn z F w v) (hz:0<z) {g:Nat} {q:Option Addr} {n c:Nat} (c0:w.cell? ⟨g,0,none⟩=some (.slice q n c)) (c1:w.cell? ⟨g,1,none⟩=none) (hb:But [g] w w'):zdn z F w' v:=by(
 obtain⟨b,e,h1,h2⟩:=h
 have hne:b ∉ [g]:=by
  obtain⟨s,hs⟩:=h1.bool hz
  intro hh
  simp at hh
  subst hh
  rw[c0] at hs
  simp at hs
 refine⟨b,e,⟨fun j hj=>?_,fun o=>(hb.frozen (p:=⟨b,o,none⟩) h2 hne).trans (h1.loose o)⟩,Nat.lt_of_lt_of_le h2 hb.size⟩
 obtain⟨s,x,y,p,hp,hf⟩:=h1.told j hj
 exact⟨s,x,y,p,hp.but hb hne,hf.zwb c0 c1 hb⟩)
theorem zdn.qbp {z:Nat} {F:Nat→Rat} {w w':World} {v:Value} (h:zdn z F w v) (hz:0<z) {g:Nat} {i:Int} (c0:w.cell? ⟨g,0,none⟩=some (.int .i64 i)) (hb:But [g] w w'):zdn z F w' v:=by(
 obtain⟨b,e,h1,h2⟩:=h
 have hne:b ∉ [g]:=by
  obtain⟨s,hs⟩:=h1.bool hz
  intro hh
  simp at hh
  subst hh
  rw[c0] at hs
  simp at hs
 refine⟨b,e,⟨fun j hj=>?_,fun o=>(hb.frozen (p:=⟨b,o,none⟩) h2 hne).trans (h1.loose o)⟩,Nat.lt_of_lt_of_le h2 hb.size⟩
 obtain⟨s,x,y,p,hp,hf⟩:=h1.told j hj
 exact⟨s,x,y,p,hp.but hb hne,hf.qbp c0 hb⟩)
theorem qfm (a:Act) (w:World) (d t:Nat) (u:TypeId) (ps:String) (ed:Array Edge) (gd:Option (Nat × Bool)) (b:Nat) (v:Value) (h1:a.eval (.tmp t)=.pointer (some ⟨b,0,none⟩)) (hc:w.cell? ⟨b,0,none⟩=some v) :
   (execOp a.eval { dst:=some d,op:=Op.load 46 (.tmp t),type:=u,pos:=ps,after:=ed,guard:=gd }).run prog w=.ok (.value v) w:=by(
 unfold execOp
 simp only[h1]
 go_simp)
theorem zvu (a:Act) (w:World) (d t:Nat) (u:TypeId) (ps:String) (ed:Array Edge) (gd:Option (Nat × Bool)) (b:Nat) (v:Value) (h1:a.eval (.tmp t)=.pointer (some ⟨b,0,none⟩)) (hc:w.cell? ⟨b,0,none⟩=some v) :
   (execOp a.eval { dst:=some d,op:=Op.load 3 (.tmp t),type:=u,pos:=ps,after:=ed,guard:=gd }).run prog w=.ok (.value v) w:=by(
 unfold execOp
 simp only[h1]
 go_simp)
theorem qfk (a:Act) (w:World) (t1 t2:Nat) (u:TypeId) (ps:String) (ed:Array Edge) (b:Nat) (q:Option Addr) (n c:Nat) (v0:Value) (h1:a.eval (.tmp t1)=.pointer (some ⟨b,0,none⟩)) (h2:a.eval (.tmp t2)=.slice q n c) (hc:w.cell? ⟨b,0,none⟩=some v0) (fz:w.frozen? ⟨b,0,none⟩=false) :
   (execOp a.eval { dst:=none,op:=Op.store 46 (.tmp t1) (.tmp t2),type:=u,pos:=ps,after:=ed,guard:=none }).run prog w=.ok .skip (w.setCell ⟨b,0,none⟩ (.slice q n c)):=by(
 unfold execOp
 simp only[h1,h2]
 go_simp)
theorem qfl (a:Act) (w:World) (t1 t2:Nat) (u:TypeId) (ps:String) (ed:Array Edge) (b:Nat) (i:Int) (v0:Value) (h1:a.eval (.tmp t1)=.pointer (some ⟨b,0,none⟩)) (h2:a.eval (.tmp t2)=.int .i64 i) (hc:w.cell? ⟨b,0,none⟩=some v0) (fz:w.frozen? ⟨b,0,none⟩=false) :
   (execOp a.eval { dst:=none,op:=Op.store 3 (.tmp t1) (.tmp t2),type:=u,pos:=ps,after:=ed,guard:=none }).run prog w=.ok .skip (w.setCell ⟨b,0,none⟩ (.int .i64 i)):=by(
 unfold execOp
 simp only[h1,h2]
 go_simp)
theorem qfo (a:Act) (w:World) (d:Nat) (u:TypeId) (ps:String) (ed:Array Edge) :
  (execOp a.eval { dst:=some d,op:=Op.alloc 46,type:=u,pos:=ps,after:=ed,guard:=none }).run prog w=.ok (.value (.pointer (some ⟨w.heap.size,0,none⟩))) (w.alloc (.cells #[.slice none 0 0] 46)):=by
 unfold execOp
 go_simp
theorem qfp (a:Act) (w:World) (d:Nat) (u:TypeId) (ps:String) (ed:Array Edge) :
  (execOp a.eval { dst:=some d,op:=Op.alloc 3,type:=u,pos:=ps,after:=ed,guard:=none }).run prog w=.ok (.value (.pointer (some ⟨w.heap.size,0,none⟩))) (w.alloc (.cells #[.int .i64 0] 3)):=by
 unfold execOp
 go_simp
theorem qaw (a:Act) (w:World) (d t:Nat) (u:TypeId) (ps:String) (ed:Array Edge) (gd:Option (Nat × Bool)) (k n:Nat) (hk:k≤12) (hn:n=2^k) (h1:a.eval (.tmp t)=.int .i64 (k:Int)) :
   (execOp a.eval { dst:=some d,op:=Op.binOp BinOp.shl 3 (Operand.const (Value.int IntKind.i64 1)) (.tmp t) 3,type:=u,pos:=ps,after:=ed,guard:=gd }).run prog w=.ok (.value (.int .i64 (n:Int))) w:=by(
 have e:a.eval (.const (.int .i64 1))=.int .i64 1:=rfl
 unfold execOp
 simp only[h1,e]
 subst hn
 have:k=0∨k=1∨k=2∨k=3∨k=4∨k=5∨k=6∨k=7∨k=8∨k=9∨k=10∨k=11∨k=12:=by omega
 rcases this with rfl|rfl|rfl|rfl|rfl|rfl|rfl|rfl|rfl|rfl|rfl|rfl|rfl
 all_goals (go_simp;first|rfl | (rw[IntKind.wrap_i64];omega) | decide))
def qhl:Oper:=⟨some 25,.move (.tmp 0),3, "bound.go:36",#[],none⟩
def qhk:Oper:=⟨some 26,.move (.tmp 1),47, "bound.go:36",#[],none⟩
def qhj:Oper:=⟨some 27,.call { callee:=.value (.func 88),args:=#[.tmp 25,.tmp 26],argTypes:=#[3,47] },46, "bound.go:36",#[⟨0,.data⟩,⟨1,.data⟩],none⟩
def qhi:Oper:=⟨some 28,.move (.tmp 2),3, "bound.go:36",#[{ on:=7,ground:=.gcOnly Departure.lateStores }],none⟩
def qhh:Oper:=⟨some 29,.binOp .shl 3 (.const (.int .i64 1)) (.tmp 28) 3,3, "bound.go:36",#[⟨3,.data⟩,{ on:=7,ground:=.gcOnly Departure.lateStores }],none⟩
def qhg:Oper:=⟨some 9,.alloc 46,0, "bound.go:36",#[],none⟩
def qhf:Oper:=⟨some 10,.alloc 3,0, "bound.go:36",#[],none⟩
def qck:Oper:=⟨none,.store 46 (.tmp 9) (.tmp 27),0, "bound.go:36",#[⟨5,.data⟩,⟨2,.data⟩,⟨2,.chain⟩,⟨0,.phase⟩,⟨1,.phase⟩,⟨2,.phase⟩,{ on:=3,ground:=.textOnly Departure.lateStores },{ on:=4,ground:=.textOnly Departure.lateStores },⟨5,.phase⟩,⟨6,.phase⟩],none⟩
def qhe:Oper:=⟨none,.store 3 (.tmp 10) (.tmp 29),0, "bound.go:36",#[⟨6,.data⟩,⟨4,.data⟩,⟨7,.chain⟩,⟨0,.phase⟩,⟨1,.phase⟩,⟨2,.phase⟩,⟨3,.phase⟩,⟨4,.phase⟩,⟨5,.phase⟩,⟨6,.phase⟩,⟨7,.phase⟩],none⟩
def zcm:Array Oper:=#[qhl,qhk,qhj,qhi,qhh,qhg,qhf,qck,qhe]
def zgf (i:Nat):Nat:=match i with
 | 0=>25
 | 1=>26
 | 2=>27
 | 3=>28
 | 4=>29
 | 5=>9
 | 6=>10
 | _=>3
def qcj (B:Nat) (inc:Int) (vl:Value) (z:Nat) (F:Nat→Rat) (k n:Nat) (i:Nat) (w:World) (v:Value):Prop:=match i with
 | 0=>v=.int .i64 inc
 | 1=>v=vl
 | 2=>zdn z F w v
 | 3=>v=.int .i64 (k:Int)
 | 4=>v=.int .i64 (n:Int)
 | 5=>zln B w v
 | 6=>zlo B w v
 | _=>True
theorem zym:∀ i j,i<8→j<8→zgf i=zgf j→i=j:=fun i j hi hj=>(by decide:∀ i,i<8→∀ j,j<8→zgf i=zgf j→i=j) i hi j hj
def StS (B z:Nat) (F:Nat→Rat) (w:World) (v:Value):Prop:=∃ b x,v=.pointer (some ⟨b,0,none⟩)∧B≤b∧w.cell? ⟨b,0,none⟩=some x∧zdn z F w x
theorem zpl (id:Nat) (Q:Exit→Act→World→Prop) (base:Act) (W0:World) (B:Nat) (inc:Int) (vl:Value) (z:Nat) (F:Nat→Rat) (k n:Nat) (hs:29<base.tmps.size) (hBW:B=W0.heap.size) (hz:0<z) (hk12:k≤12) (hn2:n=2^k)
   (e0:base.eval (.tmp 0)=.int .i64 inc) (e1:base.eval (.tmp 1)=vl) (e2:base.eval (.tmp 2)=.int .i64 (k:Int))
   (EX:∀ w,But [] W0 w→Calls prog 88 #[.int .i64 inc,vl] w fun e w'=>∃ v,e=.returned v∧zdn z F w' v∧But [] w w')
   (hQ:∀ w b9 b10 v2 x9 v7,But [] W0 w∧B≤b9∧B≤b10∧w.cell? ⟨b9,0,none⟩=some x9∧w.cell? ⟨b10,0,none⟩=some (.int .i64 (n:Int))∧zdn z F w x9→Q .normal (bi base [(25,.int .i64 inc),(26,vl),(27,v2),(28,.int .i64 (k:Int)),(29,.int .i64 (n:Int)),(9,.pointer (some ⟨b9,0,none⟩)),(10,.pointer (some ⟨b10,0,none⟩)),(3,v7)]) w) :
   (Code.region id zcm true).wp prog Q base W0:=by(
 have hdr:∀ {w},But [] W0.drew w→But [] W0 w:=fun h=>(But.refl _ _).drew.trans' h
 have hT:∀ i,i<8→zgf i<base.tmps.size:=fun i hi=>by
  have h:zgf i≤29:=by revert i;decide
  omega
 refine zoj (by kernel_rfl) (zcb (by kernel_rfl)) (fun i o ho=>(zgw (ops:=zcm) (by kernel_rfl) i o ho).1) (fun w=>But [] W0.drew w) (But.refl _ _) (fun _ _ h hb=>h.trans' hb)
  (qcj B inc vl z F k n) zgf 8 7 5 (by omega) (StS B z F) rfl zym hT ?_ (fun _ _=>trivial) (fun w w' v h hb=>?_)
  (fun i hi=>?_) (zdk (ops:=zcm) (ps:=[(7,5)]) (by kernel_rfl) 7 5 (by simp)) ?_ ?_ (fun a w=>∃ b9 b10 v2 x9 v7,a=bi base [(25,.int .i64 inc),(26,vl),(27,v2),(28,.int .i64 (k:Int)),(29,.int .i64 (n:Int)),(9,.pointer (some ⟨b9,0,none⟩)),(10,.pointer (some ⟨b10,0,none⟩)),(3,v7)]∧But [] W0 w∧B≤b9∧B≤b10∧w.cell? ⟨b9,0,none⟩=some x9∧w.cell? ⟨b10,0,none⟩=some (.int .i64 (n:Int))∧zdn z F w x9) ?_ ?_ (by omega)
 ·(
 intro i w w' v hi h hb
 have:i=0∨i=1∨i=2∨i=3∨i=4∨i=5∨i=6∨i=7:=by omega
 rcases this with rfl|rfl|rfl|rfl|rfl|rfl|rfl|rfl
 ·exact h
 ·exact h
 ·exact zdn.but h hb
 ·exact h
 ·exact h
 ·exact zln.but h hb (fun _ _=>by simp)
 ·exact zlo.but h hb (fun _ _=>by simp)
 ·trivial)
 ·obtain⟨b,x,h1,h2,h3,h4⟩:=h
  exact⟨b,x,h1,h2,hb.ag h3 (by simp),h4.but hb⟩
 ·exact zdk (ops:=zcm) (ps:=[(8,0),(8,1),(8,2),(8,3),(8,4),(8,5),(8,6),(8,7)]) (by kernel_rfl) 8 i (by
   have:i=0∨i=1∨i=2∨i=3∨i=4∨i=5∨i=6∨i=7:=by omega
   rcases this with rfl|rfl|rfl|rfl|rfl|rfl|rfl|rfl <;> simp)
 ·(
 intro i o a w K hi hiq ho hH he hdep hk
 have hD:=o7 (ps:=[(2,0),(2,1),(4,3)]) (by kernel_rfl) ho (fun j=>qcj B inc vl z F k n j w (a.eval (.tmp (zgf j)))) hdep
 have e0':=(he 0 (fun j hj e=>absurd e.symm (by revert j;decide))).trans e0
 have e1':=(he 1 (fun j hj e=>absurd e.symm (by revert j;decide))).trans e1
 have e2':=(he 2 (fun j hj e=>absurd e.symm (by revert j;decide))).trans e2
 have:i=0∨i=1∨i=2∨i=3∨i=4∨i=5∨i=6∨i=7:=by omega
 rcases this with rfl|rfl|rfl|rfl|rfl|rfl|rfl|rfl
 ·obtain rfl:=so (show zcm[0]? =some qhl from rfl) ho
  exact al (br a w _ _ _ _ _ _ _ e0') (hk _ _ (But.refl _ _) rfl)
 ·obtain rfl:=so (show zcm[1]? =some qhk from rfl) ho
  exact al (br a w _ _ _ _ _ _ _ e1') (hk _ _ (But.refl _ _) rfl)
 ·obtain rfl:=so (show zcm[2]? =some qhj from rfl) ho
  exact ax (zqj a w _ _ _ _ _ _ _ _ _ (hD 0 (by simp)) (hD 1 (by simp))) (R:=fun w' v=>zdn z F w' v∧But [] w w') (EX w (hdr hH)) (fun v w' hv=>hk v w' hv.2 hv.1)
 ·obtain rfl:=so (show zcm[3]? =some qhi from rfl) ho
  exact al (br a w _ _ _ _ _ _ _ e2') (hk _ _ (But.refl _ _) rfl)
 ·obtain rfl:=so (show zcm[4]? =some qhh from rfl) ho
  exact al (qaw a w _ _ _ _ _ _ k n hk12 hn2 (hD 3 (by simp))) (hk _ _ (But.refl _ _) rfl)
 ·obtain rfl:=so (show zcm[5]? =some qhg from rfl) ho
  exact al (qfo a w _ _ _ _) (hk _ _ ((But.refl _ _).alloc _) ⟨w.heap.size,none,0,0,rfl,by rw[hBW];exact (hdr hH).size,by rw[World.cell?_alloc_new];rfl,⟨by simp,by rw[World.cell?_alloc_new];rfl⟩,by simp⟩)
 ·obtain rfl:=so (show zcm[6]? =some qhf from rfl) ho
  exact al (qfp a w _ _ _ _) (hk _ _ ((But.refl _ _).alloc _) ⟨w.heap.size,0,rfl,by rw[hBW];exact (hdr hH).size,by rw[World.cell?_alloc_new];rfl,by simp⟩)
 ·exact absurd rfl hiq)
 ·(
 intro o a w K ho hH he hdep hk
 have hD:=o7 (ps:=[(7,5),(7,2)]) (by kernel_rfl) ho (fun j=>qcj B inc vl z F k n j w (a.eval (.tmp (zgf j)))) hdep
 obtain rfl:=so (show zcm[7]? =some qck from rfl) ho
 have cl:zdn z F w (a.eval (.tmp 27)):=hD 2 (by simp)
 obtain⟨b,q,n',c,eb,hb1,hb2,⟨hb3,hb4⟩,hb5⟩:zln B w (a.eval (.tmp 9)):=hD 5 (by simp)
 have cl2:=cl
 obtain⟨gg,eg,-,-⟩:=cl2
 have hb:But [b] w (w.setCell ⟨b,0,none⟩ (a.eval (.tmp 27))):=(But.refl [b] w).setCell (.inl (by simp)) _
 have hx:=cl.zwb hz hb2 hb4 hb
 have hc1:(w.setCell ⟨b,0,none⟩ (a.eval (.tmp 27))).cell? ⟨b,1,none⟩=none:=by
  rw[World.cell?_setCell_other _ _ _ _ (by simp)]
  exact hb4
 have hrun:=qfk a w 9 27 0 "bound.go:36" qck.after b (some ⟨gg,0,none⟩) z z _ eb eg hb2 hb5
 rw[← eg] at hrun
 refine pz hrun (hk _ (hH.trans hb (fun x hx=>by simp at hx;subst hx;exact .inr (by rw[hBW] at hb1;exact hb1))) (fun j hj u hu=>?_) ⟨b,_,eb,hb1,World.cell?_setCell_same _ _ _ hb2,hx⟩)
 have:j=0∨j=1∨j=2∨j=3∨j=4∨j=5∨j=6∨j=7:=by omega
 rcases this with rfl|rfl|rfl|rfl|rfl|rfl|rfl|rfl
 ·exact hu
 ·exact hu
 ·exact zdn.zwb hu hz hb2 hb4 hb
 ·exact hu
 ·exact hu
 ·(
 obtain⟨b',q',n'',c',e',h1',h2',⟨h3',h4'⟩,h5'⟩:=hu
 by_cases hbb:b'=b
 ·subst hbb
  refine⟨b',_,_,_,e',h1',(World.cell?_setCell_same _ _ _ hb2).trans (congrArg some eg),⟨Nat.lt_of_lt_of_le h3' hb.size,hc1⟩,?_⟩
  rw[World.frozen?_setCell]
  exact h5'
 ·(
 exact zln.but ⟨b',q',n'',c',e',h1',h2',⟨h3',h4'⟩,h5'⟩ hb (fun b2 he2=>by
  have:=e'.symm.trans he2
  simp only[Value.pointer.injEq,Option.some.injEq,Addr.mk.injEq,and_true] at this
  simp
  omega)))
 ·(
 obtain⟨b',i',e',h1',h2',h5'⟩:=hu
 have hbb:b'≠b:=by
  rintro rfl
  rw[hb2] at h2'
  simp at h2'
 exact zlo.but ⟨b',i',e',h1',h2',h5'⟩ hb (fun b2 he2=>by
   have:=e'.symm.trans he2
   simp only[Value.pointer.injEq,Option.some.injEq,Addr.mk.injEq,and_true] at this
   simp
   omega))
 ·trivial)
 ·(
 intro dn o a w K ho hall h hst hK
 obtain rfl:=so (show zcm[8]? =some qhe from rfl) ho
 obtain⟨b9,x,eb,hb1,hb2,hb3⟩:=hst
 have eb:a.eval (.tmp 9)=.pointer (some ⟨b9,0,none⟩):=eb
 obtain⟨b10,i0,et,h1,h2,h3⟩:zlo B w (a.eval (.tmp 10)):=h.has 6 (by omega) (hall 6 (by omega))
 have hd:b9≠b10:=by
  rintro rfl
  have hb4:=hb3
  obtain⟨gg,eg,-,-⟩:=hb4
  rw[hb2,eg] at h2
  simp at h2
 have e29:a.eval (.tmp 29)=.int .i64 (n:Int):=h.has 4 (by omega) (hall 4 (by omega))
 have hb:But [b10] w (w.setCell ⟨b10,0,none⟩ (.int .i64 (n:Int))):=(But.refl [b10] w).setCell (.inl (by simp)) _
 have ea:=h.puts hT (fun i=>match i with
  | 0=>.int .i64 inc
  | 1=>vl
  | 2=>a.eval (.tmp 27)
  | 3=>.int .i64 (k:Int)
  | 4=>.int .i64 (n:Int)
  | 5=>.pointer (some ⟨b9,0,none⟩)
  | 6=>.pointer (some ⟨b10,0,none⟩)
  | _=>a.eval (.tmp 3)) (fun i hi=>by
  have hc:=h.has i hi (hall i hi)
  have:i=0∨i=1∨i=2∨i=3∨i=4∨i=5∨i=6∨i=7:=by omega
  rcases this with rfl|rfl|rfl|rfl|rfl|rfl|rfl|rfl
  ·exact hc
  ·exact hc
  ·rfl
  ·exact hc
  ·exact hc
  ·exact eb
  ·exact et
  ·rfl)
 refine pz (qfl a w _ _ _ _ _ b10 _ _ et e29 h2 h3) (hK _ _ ⟨b9,b10,a.eval (.tmp 27),x,a.eval (.tmp 3),ea,(hdr h.mem).trans hb (fun x hx=>by simp at hx;subst hx;exact .inr (by rw[hBW] at h1;exact h1)),hb1,h1,?_,World.cell?_setCell_same _ _ _ h2,hb3.qbp hz h2 hb⟩)
 rw[World.cell?_setCell_other _ _ _ _ (by simp;first | done | omega)]
 exact hb2)
 ·rintro a w ⟨b9,b10,v2,x9,v7,rfl,h⟩
  exact hQ w b9 b10 v2 x9 v7 h)
theorem zth (a:Act) (w:World) (d t:Nat) (u:TypeId) (ps:String) (ed:Array Edge) (gd:Option (Nat × Bool)) (m:Nat) (hm:m≤1000000) (h1:a.eval (.tmp t)=.int .i64 (m:Int)) :
   (execOp a.eval { dst:=some d,op:=Op.binOp BinOp.add 3 (.tmp t) (Operand.const (Value.int IntKind.i64 1)) 3,type:=u,pos:=ps,after:=ed,guard:=gd }).run prog w=.ok (.value (.int .i64 ((m+1:Nat):Int))) w:=by(
 have e:a.eval (.const (.int .i64 1))=.int .i64 1:=rfl
 unfold execOp
 simp only[h1,e]
 go_simp
 rw[IntKind.wrap_i64]
 omega)
theorem qay (a:Act) (w:World) (d t:Nat) (u:TypeId) (ps:String) (ed:Array Edge) (gd:Option (Nat × Bool)) (b:Bool) (h1:a.eval (.tmp t)=.bool b) :
   (execOp a.eval { dst:=some d,op:=Op.unOp UnOp.not 4 (.tmp t),type:=u,pos:=ps,after:=ed,guard:=gd }).run prog w=.ok (.value (.bool (!b))) w:=by(
 unfold execOp
 simp only[h1]
 go_simp)
def qci:Oper:=⟨some 5,.load 46 (.tmp 1),46, "bound.go:39",#[],none⟩
def qch:Oper:=⟨some 6,.load 3 (.tmp 2),3, "bound.go:39",#[],none⟩
def qcg:Oper:=⟨some 7,.binOp .add 3 (.tmp 6) (.const (.int .i64 1)) 3,3, "bound.go:39",#[⟨1,.data⟩],none⟩
def qcf:Oper:=⟨some 8,.move (.tmp 0),3, "bound.go:39",#[],none⟩
def qce:Oper:=⟨some 9,.binOp .add 3 (.tmp 7) (.tmp 8) 3,3, "bound.go:39",#[⟨2,.data⟩,⟨3,.data⟩],none⟩
def qcd:Oper:=⟨some 10,.call { callee:=.value (.func 79),args:=#[.tmp 9],argTypes:=#[3] },27, "bound.go:39",#[⟨4,.data⟩],none⟩
def qcc:Oper:=⟨some 11,.load 3 (.tmp 2),3, "bound.go:39",#[],none⟩
def qcb:Oper:=⟨some 12,.call { callee:=.value (.func 79),args:=#[.tmp 11],argTypes:=#[3] },27, "bound.go:39",#[⟨6,.data⟩,⟨5,.chain⟩],none⟩
def qca:Oper:=⟨some 13,.call { callee:=.value (.func 87),args:=#[.tmp 5,.tmp 10,.tmp 12],argTypes:=#[46,27,27] },4, "bound.go:39",#[⟨0,.data⟩,⟨5,.data⟩,⟨7,.data⟩,⟨7,.chain⟩],none⟩
def qbz:Oper:=⟨some 14,.unOp .not 4 (.tmp 13),4, "bound.go:39",#[⟨8,.data⟩],none⟩
def zts:Oper:=⟨some 4,.assign (.tmp 14),4, "bound.go:39",#[⟨9,.data⟩,⟨8,.chain⟩,⟨0,.phase⟩,⟨1,.phase⟩,⟨2,.phase⟩,⟨3,.phase⟩,⟨4,.phase⟩,⟨5,.phase⟩,⟨6,.phase⟩,⟨7,.phase⟩,⟨8,.phase⟩,⟨9,.phase⟩],none⟩
def di:Array Oper:=#[qci,qch,qcg,qcf,qce,qcd,qcc,qcb,qca,qbz,zts]
def zij (i:Nat):Nat:=match i with
 | 0=>5
 | 1=>6
 | 2=>7
 | 3=>8
 | 4=>9
 | 5=>10
 | 6=>11
 | 7=>12
 | 8=>13
 | 9=>14
 | _=>4
def zwe (vs:Value) (n:Nat) (k:Nat) (ws1:Bool) (wx1:Int) (ws2:Bool) (wx2:Int) (q:Bool) (i:Nat) (_w:World) (v:Value):Prop:=match i with
 | 0=>v=vs
 | 1=>v=.int .i64 (n:Int)
 | 2=>v=.int .i64 ((n+1:Nat):Int)
 | 3=>v=.int .i64 (k:Int)
 | 4=>v=.int .i64 ((n+1+k:Nat):Int)
 | 5=>v=.agg #[.bool ws1,.int .u64 wx1,.int .u64 0,.pointer none]
 | 6=>v=.int .i64 (n:Int)
 | 7=>v=.agg #[.bool ws2,.int .u64 wx2,.int .u64 0,.pointer none]
 | 8=>v=.bool q
 | 9=>v=.bool (!q)
 | _=>v=.bool (!q)
theorem zyl {vs:Value} {n:Nat} {k:Nat} {ws1:Bool} {wx1:Int} {ws2:Bool} {wx2:Int} {q:Bool} {i:Nat} {w w':World} {v:Value} (h:zwe vs n k ws1 wx1 ws2 wx2 q i w v) (hi:i<11) (hb:But [] w w'):zwe vs n k ws1 wx1 ws2 wx2 q i w' v:=by(
 have:i=0∨i=1∨i=2∨i=3∨i=4∨i=5∨i=6∨i=7∨i=8∨i=9∨i=10:=by omega
 rcases this with rfl|rfl|rfl|rfl|rfl|rfl|rfl|rfl|rfl|rfl|rfl
 all_goals first | exact h | exact am.but h hb | exact aq.but h hb)
theorem zyk:∀ i j,i<11→j<11→zij i=zij j→i=j:=fun i j hi hj=>(by decide:∀ i,i<11→∀ j,j<11→zij i=zij j→i=j) i hi j hj
theorem zpk (id:Nat) (Q:Exit→Act→World→Prop) (base:Act) (W0:World) (vs:Value) (n:Nat) (k:Nat) (ws1:Bool) (wx1:Int) (ws2:Bool) (wx2:Int) (q:Bool) (hs:14<base.tmps.size) (g1 g2:Nat) (e1:base.eval (.tmp 1)=.pointer (some ⟨g1,0,none⟩)) (e2:base.eval (.tmp 2)=.pointer (some ⟨g2,0,none⟩)) (e0:base.eval (.tmp 0)=.int .i64 (k:Int))
   (hn:n≤100000) (hk2:k≤600000) (c1:W0.cell? ⟨g1,0,none⟩=some vs) (c2:W0.cell? ⟨g2,0,none⟩=some (.int .i64 (n:Int)))
   (W1:∀ w,Calls prog 79 #[.int .i64 ((n+1+k:Nat):Int)] w fun e w'=>e=.returned (.agg #[.bool ws1,.int .u64 wx1,.int .u64 0,.pointer none])∧But [] w w')
   (W2:∀ w,Calls prog 79 #[.int .i64 (n:Int)] w fun e w'=>e=.returned (.agg #[.bool ws2,.int .u64 wx2,.int .u64 0,.pointer none])∧But [] w w')
   (SA:∀ w,But [] W0 w→Calls prog 87 #[vs,.agg #[.bool ws1,.int .u64 wx1,.int .u64 0,.pointer none],.agg #[.bool ws2,.int .u64 wx2,.int .u64 0,.pointer none]] w fun e w'=>e=.returned (.bool q)∧But [] w w')
   (hQ:∀ w,But [] W0 w→Q .normal (bi base [(5,vs),(6,.int .i64 (n:Int)),(7,.int .i64 ((n+1:Nat):Int)),(8,.int .i64 (k:Int)),(9,.int .i64 ((n+1+k:Nat):Int)),(10,.agg #[.bool ws1,.int .u64 wx1,.int .u64 0,.pointer none]),(11,.int .i64 (n:Int)),(12,.agg #[.bool ws2,.int .u64 wx2,.int .u64 0,.pointer none]),(13,.bool q),(14,.bool (!q)),(4,.bool (!q))]) w) :
   (Code.region id di true).wp prog Q base W0:=by(
 have hdr:∀ {w},But [] W0.drew w→But [] W0 w:=fun h=>(But.refl _ _).drew.trans' h
 have hT:∀ i,i<11→zij i<base.tmps.size:=fun i hi=>by
  have h:zij i≤14:=by revert i;decide
  omega
 refine zhg (by kernel_rfl) (zcb (by kernel_rfl)) (zwe vs n k ws1 wx1 ws2 wx2 q) zij (by kernel_rfl) ?_ zyk hT (fun i w w' v hi h hb=>zyl h hi hb) ?_ ?_
 ·(
 intro i o j want ho hg w v hv
 have hi:i<11:=(Array.getElem?_eq_some_iff.1 ho).1
 have:i=0∨i=1∨i=2∨i=3∨i=4∨i=5∨i=6∨i=7∨i=8∨i=9∨i=10:=by omega
 rcases this with rfl|rfl|rfl|rfl|rfl|rfl|rfl|rfl|rfl|rfl|rfl
 ·obtain rfl:=so (show di[0]? =some qci from rfl) ho
  exact absurd (show (none:Option (Nat × Bool))=some (j,want) from hg) (by simp)
 ·obtain rfl:=so (show di[1]? =some qch from rfl) ho
  exact absurd (show (none:Option (Nat × Bool))=some (j,want) from hg) (by simp)
 ·obtain rfl:=so (show di[2]? =some qcg from rfl) ho
  exact absurd (show (none:Option (Nat × Bool))=some (j,want) from hg) (by simp)
 ·obtain rfl:=so (show di[3]? =some qcf from rfl) ho
  exact absurd (show (none:Option (Nat × Bool))=some (j,want) from hg) (by simp)
 ·obtain rfl:=so (show di[4]? =some qce from rfl) ho
  exact absurd (show (none:Option (Nat × Bool))=some (j,want) from hg) (by simp)
 ·obtain rfl:=so (show di[5]? =some qcd from rfl) ho
  exact absurd (show (none:Option (Nat × Bool))=some (j,want) from hg) (by simp)
 ·obtain rfl:=so (show di[6]? =some qcc from rfl) ho
  exact absurd (show (none:Option (Nat × Bool))=some (j,want) from hg) (by simp)
 ·obtain rfl:=so (show di[7]? =some qcb from rfl) ho
  exact absurd (show (none:Option (Nat × Bool))=some (j,want) from hg) (by simp)
 ·obtain rfl:=so (show di[8]? =some qca from rfl) ho
  exact absurd (show (none:Option (Nat × Bool))=some (j,want) from hg) (by simp)
 ·obtain rfl:=so (show di[9]? =some qbz from rfl) ho
  exact absurd (show (none:Option (Nat × Bool))=some (j,want) from hg) (by simp)
 ·obtain rfl:=so (show di[10]? =some zts from rfl) ho
  exact absurd (show (none:Option (Nat × Bool))=some (j,want) from hg) (by simp))
 ·(
 intro i o a w K ho hH he hdep hk
 have hi:i<11:=(Array.getElem?_eq_some_iff.1 ho).1
 have hD:=o7 (ps:=[(2,1),(4,2),(4,3),(5,4),(7,5),(7,6),(8,0),(8,5),(8,7),(9,8),(10,0),(10,1),(10,2),(10,3),(10,4),(10,5),(10,6),(10,7),(10,8),(10,9)]) (by kernel_rfl) ho (fun j=>zwe vs n k ws1 wx1 ws2 wx2 q j w (a.eval (.tmp (zij j)))) hdep
 have e1':=(he 1 (fun j hj e=>absurd e.symm (by revert j;decide))).trans e1
 have e2':=(he 2 (fun j hj e=>absurd e.symm (by revert j;decide))).trans e2
 have e0':=(he 0 (fun j hj e=>absurd e.symm (by revert j;decide))).trans e0
 have:i=0∨i=1∨i=2∨i=3∨i=4∨i=5∨i=6∨i=7∨i=8∨i=9∨i=10:=by omega
 rcases this with rfl|rfl|rfl|rfl|rfl|rfl|rfl|rfl|rfl|rfl|rfl
 ·obtain rfl:=so (show di[0]? =some qci from rfl) ho
  exact al (qfm a w _ _ _ _ _ _ g1 _ e1' ((hdr hH).ag c1 (by simp))) (hk _ _ (But.refl _ _) rfl)
 ·obtain rfl:=so (show di[1]? =some qch from rfl) ho
  exact al (zvu a w _ _ _ _ _ _ g2 _ e2' ((hdr hH).ag c2 (by simp))) (hk _ _ (But.refl _ _) rfl)
 ·obtain rfl:=so (show di[2]? =some qcg from rfl) ho
  exact al (zth a w _ _ _ _ _ _ n (by omega) (hD 1 (by simp))) (hk _ _ (But.refl _ _) rfl)
 ·obtain rfl:=so (show di[3]? =some qcf from rfl) ho
  exact al (br a w _ _ _ _ _ _ _ e0') (hk _ _ (But.refl _ _) rfl)
 ·obtain rfl:=so (show di[4]? =some qce from rfl) ho
  exact al (zxq a w _ _ _ _ _ _ _ (n+1) k (by omega) (by omega) (hD 2 (by simp)) (hD 3 (by simp))) (hk _ _ (But.refl _ _) rfl)
 ·obtain rfl:=so (show di[5]? =some qcd from rfl) ho
  exact ax (zkc a w _ _ _ _ _ _ _ (hD 4 (by simp))) (R:=fun w' v=>But [] w w'∧v=_) ((W1 w).mono fun e w' ⟨he,hb⟩=>⟨_,he,hb,rfl⟩) (fun v w' hv=>hk v w' hv.1 hv.2)
 ·obtain rfl:=so (show di[6]? =some qcc from rfl) ho
  exact al (zvu a w _ _ _ _ _ _ g2 _ e2' ((hdr hH).ag c2 (by simp))) (hk _ _ (But.refl _ _) rfl)
 ·obtain rfl:=so (show di[7]? =some qcb from rfl) ho
  exact ax (zkc a w _ _ _ _ _ _ _ (hD 6 (by simp))) (R:=fun w' v=>But [] w w'∧v=_) ((W2 w).mono fun e w' ⟨he,hb⟩=>⟨_,he,hb,rfl⟩) (fun v w' hv=>hk v w' hv.1 hv.2)
 ·obtain rfl:=so (show di[8]? =some qca from rfl) ho
  exact ax (zxp a w _ _ _ _ _ _ _ _ _ _ _ (hD 0 (by simp)) (hD 5 (by simp)) (hD 7 (by simp))) (R:=fun w' v=>But [] w w'∧v=_) ((SA w (hdr hH)).mono fun e w' ⟨he,hb⟩=>⟨_,he,hb,rfl⟩) (fun v w' hv=>hk v w' hv.1 hv.2)
 ·obtain rfl:=so (show di[9]? =some qbz from rfl) ho
  exact al (qay a w _ _ _ _ _ _ _ (hD 8 (by simp))) (hk _ _ (But.refl _ _) rfl)
 ·obtain rfl:=so (show di[10]? =some zts from rfl) ho
  exact al (qfn a w _ _ _ _ _ _ _ (hD 9 (by simp))) (hk _ _ (But.refl _ _) rfl))
 ·(
 intro a w h
 have ea:=h.puts hT (fun i=>match i with
  | 0=>vs
  | 1=>.int .i64 (n:Int)
  | 2=>.int .i64 ((n+1:Nat):Int)
  | 3=>.int .i64 (k:Int)
  | 4=>.int .i64 ((n+1+k:Nat):Int)
  | 5=>.agg #[.bool ws1,.int .u64 wx1,.int .u64 0,.pointer none]
  | 6=>.int .i64 (n:Int)
  | 7=>.agg #[.bool ws2,.int .u64 wx2,.int .u64 0,.pointer none]
  | 8=>.bool q
  | 9=>.bool (!q)
  | _=>.bool (!q)) (fun i hi=>by
  have hi':i<11:=hi
  have hc:=h.has i hi rfl
  have:i=0∨i=1∨i=2∨i=3∨i=4∨i=5∨i=6∨i=7∨i=8∨i=9∨i=10:=by omega
  rcases this with rfl|rfl|rfl|rfl|rfl|rfl|rfl|rfl|rfl|rfl|rfl
  all_goals first | exact hc|rfl)
 rw[ea]
 exact hQ w (hdr h.but)))
end Go.Proofs.YtagmkkiagjmimaaGreatDoor
