/- A fraction's text, as the Go text of pac -/
import Derived.Shelf.Strconv.Itoa3
import Derived.Shelf.Strings.Cut
import Derived.Test.YtjlfllhedceigaaGreatDoorProg
import Derived.Shelf.Strings.Trim
import Derived.Shelf.Strconv.Atoi
import Derived.RangeFuncNested
import Derived.RangeFuncBound
import Derived.RangeFuncCalls
import Derived.RangeFuncLeaves
import Derived.Shelf.Abstract
import Derived.Shelf.RegionOpen
import Derived.WalkKit
import Derived.OwnWalkIn
import Derived.TacticsInMore
import Derived.LoopNIn
import Derived.LoopIn
import Derived.Test.YtjlfllhedceigaaGreatDoorRC1
import Derived.Test.YtjlfllhedceigaaGreatDoorRF13
namespace Go.Proofs.YtjlfllhedceigaaGreatDoor
open Go.Proofs.Tryz
open Go.RowKit
set_option maxHeartbeats 8000000
set_option maxRecDepth 100000
def uh (s:Bool) (p q:Nat):ByteArray:=(if s then ⟨#[45]⟩++⟨(Lib.decDigits p).toArray⟩ else ⟨(Lib.decDigits p).toArray⟩)++(if q=1 then ⟨#[]⟩ else ⟨#[47]⟩++⟨(Lib.decDigits q).toArray⟩)
theorem zne (u:Nat) (h:(wd 18446744073709551616 u).length≤1000000):(Lib.decDigits u).length≤20000000:=by(
 rcases Nat.eq_zero_or_pos u with rfl | h0
 ·rw[Lib.decDigits_length,Lib.nDigits_small (by omega)];omega
 ·rw[← zfb u h0,List.length_reverse];exact zve u 1000000 h)
theorem qjw (t:ByteArray):t++⟨#[]⟩=t:=by
 cases t;simp[ByteArray.ext_iff]
theorem zor (v:Value) (f:Rat) (w:World) (hf:am w v f) (hL:Len f 1000000) (htab:Lib.TabIs prog w "internal/strconv.uint64pow10" .u64 Lib.pow10Tab) (t:ByteArray) (ht:Hid (t=uh (decide (f.num<0)) f.num.natAbs f.den)) :
   Calls prog 12 #[v] w fun e w'=>e=.returned (.string t)∧But [] w w':=by(
 have hq0:=den_pos f
 obtain⟨hN,hD⟩:=hL
 obtain⟨tp,htp⟩:∃ tp:ByteArray,tp=⟨(Lib.decDigits f.num.natAbs).toArray⟩:=⟨_,rfl⟩
 obtain⟨tq,htq⟩:∃ tq:ByteArray,tq=⟨(Lib.decDigits f.den).toArray⟩:=⟨_,rfl⟩
 have sp:tp.size≤20000000:=by rw[htp];exact zne _ hN
 have sq:tq.size≤20000000:=by rw[htq];exact zne _ hD
 have HNU:Hid (∀ W,But [] w W→Calls prog 50 #[v] W fun e w'=>∃ v1 v2,e=.returned (.tuple #[v1,v2])∧Sl .u64 w' v1 (wd 18446744073709551616 f.num.natAbs)∧Sl .u64 w' v2 (wd 18446744073709551616 f.den)∧But [] W w'):=fun W hb=>zcr v f W (hf.but hb)
 have T1:Hid (∀ W v1,But [] w W→Sl .u64 W v1 (wd 18446744073709551616 f.num.natAbs)→Calls prog 51 #[v1] W fun e w'=>e=.returned (.string tp)∧But [] W w'):=fun W v1 hb h=>zht v1 _ W h hN (TabIs.but htab hb) tp htp
 have T2:Hid (∀ W v1,But [] w W→Sl .u64 W v1 (wd 18446744073709551616 f.den)→Calls prog 51 #[v1] W fun e w'=>e=.returned (.string tq)∧But [] W w'):=fun W v1 hb h=>zht v1 _ W h hD (TabIs.but htab hb) tq htq
 have HT:Hid (t=(if decide (f.num<0) then ⟨#[45]⟩++tp else tp)++(if f.den=1 then ⟨#[]⟩ else ⟨#[47]⟩++tq)):=by show _=_;rw[ae ht,uh,htp,htq]
 have ONE:Hid (∀ W v1 (r:Bool),Hid (r=decide (f.den=1))→Sl .u64 W v1 (wd 18446744073709551616 f.den)→Calls prog 52 #[v1] W fun e w'=>e=.returned (.bool r)∧w'=W):=fun W v1 r hr h=>zee v1 _ W h (by omega) r hr
 obtain⟨x,y,p,rfl,-⟩:=hf.agg
 have hbw:But [] w (w.alloc (.cells #[.bool (decide (f.num<0)),.int .u64 x,.int .u64 y,.pointer p] 27)):=(But.refl _ _).alloc _
 clear htp htq ht htab hN hD hf
 generalize hs:decide (f.num<0)=s at *
 clear hs
 go_enter func12,ntmps12
 go_wp2_with fail
 refine (ae HNU _ hbw).mono ?_
 rintro e w1 ⟨v1,v2,rfl,hv1,hv2,hb1⟩
 have B1:=af (hbw.trans' hb1)
 have HV1:=af hv1
 have HV2:=af hv2
 have c0:=hb1.ag (show (w.alloc (.cells #[.bool s,.int .u64 x,.int .u64 y,.pointer p] 27)).cell? ⟨w.heap.size,0,none⟩=some (.bool s) by simp) (by simp)
 clear hv1 hv2 hb1
 go_wp2_with fail
 refine (ae T1 _ v1 (ae B1) (ae HV1)).mono ?_
 rintro e w2 ⟨rfl,hb2⟩
 have d0:=hb2.ag c0 (by simp)
 have B2:Hid (But [] w w2):=(ae B1).trans' hb2
 have HV3:=af ((ae HV2).ah hb2)
 clear hb2 c0 HV2 hbw
 cases s
 all_goals(
 go_wp2_with fail
 by_cases hq1:f.den=1
 ·(
 refine (ae ONE _ v2 true (by show true=_;simp[hq1]) (ae HV3)).mono ?_
 rintro e w3 ⟨rfl,hw⟩
 obtain rfl:=hw.symm
 clear hw
 go_wp2
 go_ret
 exact⟨by rw[ae HT,if_pos hq1,qjw];rfl,ae B2⟩)
 ·(
 refine (ae ONE _ v2 false (by show false=_;simp[hq1]) (ae HV3)).mono ?_
 rintro e w3 ⟨rfl,hw⟩
 obtain rfl:=hw.symm
 clear hw
 go_wp2_with fail
 refine (ae T2 _ v2 (ae B2) (ae HV3)).mono ?_
 rintro e w3 ⟨rfl,hb3⟩
 go_wp2
 go_ret
 exact⟨by rw[ae HT,if_neg hq1];rfl,(ae B2).trans' hb3⟩)))
theorem qjc (s:Bool) (p q:Nat) (hq:0<q) (hc:Nat.Coprime p q):∃ f:Rat,f.num=sgn s p∧f.den=q :=
 ⟨⟨sgn s p,q,by omega,by rw[zty];exact hc⟩,rfl,rfl⟩
theorem qfy (x y:Nat) (hy:0<y):Nat.Coprime (x/Nat.gcd x y) (y/Nat.gcd x y):=Nat.coprime_div_gcd_div_gcd (Nat.gcd_pos_of_pos_right _ hy)
theorem qcw {f:Rat} {m n:Nat} (h1:f.num.natAbs < 18446744073709551616^m) (h2:f.den < 18446744073709551616^n) (k:Nat) (hm:m≤k) (hn:n≤k):Len f k :=
 ⟨Nat.le_trans (aj (by omega) _ _ h1) hm,Nat.le_trans (aj (by omega) _ _ h2) hn⟩
theorem Len.mono {f:Rat} {m n:Nat} (h:Len f m) (hn:m≤n):Len f n:=⟨Nat.le_trans h.1 hn,Nat.le_trans h.2 hn⟩
theorem Len.lt {f:Rat} {m:Nat} (h:Len f m):f.num.natAbs < 18446744073709551616^m∧f.den < 18446744073709551616^m:=⟨ak (by omega) _ _ h.1,ak (by omega) _ _ h.2⟩
theorem qjg (x y:Int) (p q k:Nat) (hx:x.natAbs=p*k) (hy:y.natAbs=q*k):sgn (decide (x<0) != decide (y<0)) p*y=x*q:=by(
 have ex:x=sgn (decide (x<0)) (p*k):=by
  by_cases h:x<0
  ·simp[sgn,h];omega
  ·simp[sgn,h];omega
 have ey:y=sgn (decide (y<0)) (q*k):=by
  by_cases h:y<0
  ·simp[sgn,h];omega
  ·simp[sgn,h];omega
 generalize decide (x<0)=a at *
 generalize decide (y<0)=b at *
 rw[ex,ey]
 cases a <;> cases b <;> simp[sgn,Int.natCast_mul] <;> grind)
theorem zna (x y:Int) (hx1:-9223372036854775808≤x) (hx2:x<9223372036854775808) (hy1:-9223372036854775808≤y) (hy2:y<9223372036854775808) (hy0:y≠0) :
   ∃ (f:Rat) (r:Bool) (p q:Int),Len f 1∧f.num*y=x*f.den∧(∀ W,am W (.agg #[.bool r,.int .u64 p,.int .u64 q,.pointer none]) f)∧∀ W,Calls prog 48 #[.int .i64 x,.int .i64 y] W fun e w'=>e=.returned (.tuple #[.agg #[.bool r,.int .u64 p,.int .u64 q,.pointer none],.nilIface])∧But [] W w':=by(
 have hyp:0<y.natAbs:=by omega
 have hg:0<Nat.gcd x.natAbs y.natAbs:=Nat.gcd_pos_of_pos_right _ hyp
 have hd1:=Nat.div_mul_cancel (Nat.gcd_dvd_left x.natAbs y.natAbs)
 have hd2:=Nat.div_mul_cancel (Nat.gcd_dvd_right x.natAbs y.natAbs)
 have hq0:0<y.natAbs/Nat.gcd x.natAbs y.natAbs:=Nat.div_pos (Nat.le_of_dvd hyp (Nat.gcd_dvd_right _ _)) hg
 have hpB:x.natAbs/Nat.gcd x.natAbs y.natAbs < 18446744073709551616:=Nat.lt_of_le_of_lt (Nat.div_le_self _ _) (by omega)
 have hqB:y.natAbs/Nat.gcd x.natAbs y.natAbs < 18446744073709551616:=Nat.lt_of_le_of_lt (Nat.div_le_self _ _) (by omega)
 obtain⟨f,hn,hd⟩:=qjc (decide (x<0) != decide (y<0)) _ _ hq0 (qfy x.natAbs y.natAbs hyp)
 have habs:f.num.natAbs=x.natAbs/Nat.gcd x.natAbs y.natAbs:=by rw[hn,zty]
 refine⟨f,decide (f.num<0),(f.num.natAbs:Int),(f.den:Int)-1,?_,?_,fun W=>.inl ⟨by rw[habs];exact hpB,by rw[hd];exact hqB,rfl⟩,fun W=>?_⟩
 ·exact qcw (m:=1) (n:=1) (by rw[habs,Nat.pow_one];exact hpB) (by rw[hd,Nat.pow_one];exact hqB) 1 (Nat.le_refl _) (Nat.le_refl _)
 ·rw[hn,hd]
  exact qjg x y _ _ _ hd1.symm hd2.symm
 ·rw[habs,hd]
  exact ztj x y hx1 hx2 hy1 hy2 hy0 W _ _ _ (by show _=_;rw[hn,qew]) rfl rfl)
theorem zkg (x y:Int) (hx1:-9223372036854775808≤x) (hx2:x<9223372036854775808) (hy1:-9223372036854775808≤y) (hy2:y<9223372036854775808) :
   ∃ (f:Rat) (r:Bool) (p q:Int),Len f 1∧f.num*(if y=0 then 1 else y)=x*f.den∧(∀ W,am W (.agg #[.bool r,.int .u64 p,.int .u64 q,.pointer none]) f)∧∀ W,Calls prog 10 #[.agg #[.int .i64 x,.int .i64 y]] W fun e w'=>e=.returned (.agg #[.bool r,.int .u64 p,.int .u64 q,.pointer none])∧But [] W w':=by(
 by_cases hy0:y=0
 ·(
 subst hy0
 obtain⟨f,r,p,q,h1,h2,h3,h4⟩:=zna x 1 hx1 hx2 (by omega) (by omega) (by omega)
 refine⟨f,r,p,q,h1,by rw[if_pos rfl];exact h2,h3,fun w=>?_⟩
 have OF:=af h4
 clear h1 h2 h3 h4
 go_enter func10,ntmps10
 go_wp2_with fail
 obtain⟨W,hW⟩:∃ W,W=(w.alloc (.cells #[.int .i64 x,.int .i64 1] 23)).alloc (.cells #[.bool false,.int .u64 0,.int .u64 0,.pointer none] 27):=⟨_,rfl⟩
 have r0:W.cell? ⟨w.heap.size+1,0,none⟩=some (.bool false):=by rw[hW];simp
 have r1:W.cell? ⟨w.heap.size+1,1,none⟩=some (.int .u64 0):=by rw[hW];simp
 have r2:W.cell? ⟨w.heap.size+1,2,none⟩=some (.int .u64 0):=by rw[hW];simp
 have r3:W.cell? ⟨w.heap.size+1,3,none⟩=some (.pointer none):=by rw[hW];simp
 have fz:∀ j,W.frozen? ⟨w.heap.size+1,j,none⟩=false:=fun j=>by rw[hW];simp
 have hB:But [] w W:=by rw[hW];exact ((But.refl _ _).alloc _).alloc _
 rw[← hW]
 clear hW
 obtain⟨gr,hgr⟩:∃ gr,gr=w.heap.size+1:=⟨_,rfl⟩
 rw[← hgr] at r0 r1 r2 r3 fz
 rw[← hgr]
 have HGR:Hid (w.heap.size≤gr):=by show _≤_;omega
 clear hgr
 have grl:gr<W.heap.size:=ai r0
 refine (ae OF _).mono ?_
 rintro e w1 ⟨rfl,hb1⟩
 have u0:=hb1.ag r0 (by simp)
 have u1:=hb1.ag r1 (by simp)
 have u2:=hb1.ag r2 (by simp)
 have u3:=hb1.ag r3 (by simp)
 have uf:∀ j,w1.frozen? ⟨gr,j,none⟩=false:=fun j=>(hb1.frozen (p:=⟨gr,j,none⟩) grl (by simp)).trans (fz j)
 have HB1:Hid (But [] w w1):=hB.trans' hb1
 have gl1:gr<w1.heap.size:=ai u0
 clear hb1 hB r0 r1 r2 r3 fz grl
 go_wp2
 have hBf:=(((((ae HB1).setCell (p:=⟨gr,0,none⟩) (.inr (ae HGR)) (.bool r)).setCell (p:=⟨gr,1,none⟩) (.inr (ae HGR)) (.int .u64 p)).setCell (p:=⟨gr,2,none⟩) (.inr (ae HGR)) (.int .u64 q)).setCell (p:=⟨gr,3,none⟩) (.inr (ae HGR)) (.pointer none)).alloc (.cells #[.bool r,.int .u64 p,.int .u64 q,.pointer none] 27)
 exact bodyPost_ret (v:=.agg #[.bool r,.int .u64 p,.int .u64 q,.pointer none]) (by simp[results,results10,go_sem,u0,u1,u2,u3,gl1]) rfl ⟨rfl,hBf⟩)
 ·(
 obtain⟨f,r,p,q,h1,h2,h3,h4⟩:=zna x y hx1 hx2 hy1 hy2 hy0
 refine⟨f,r,p,q,h1,by rw[if_neg hy0];exact h2,h3,fun w=>?_⟩
 have n0:(y==0)=false:=by simp[hy0]
 have OF:=af h4
 clear h1 h2 h3 h4
 go_enter func10,ntmps10
 go_wp2_with fail
 obtain⟨W,hW⟩:∃ W,W=(w.alloc (.cells #[.int .i64 x,.int .i64 y] 23)).alloc (.cells #[.bool false,.int .u64 0,.int .u64 0,.pointer none] 27):=⟨_,rfl⟩
 have r0:W.cell? ⟨w.heap.size+1,0,none⟩=some (.bool false):=by rw[hW];simp
 have r1:W.cell? ⟨w.heap.size+1,1,none⟩=some (.int .u64 0):=by rw[hW];simp
 have r2:W.cell? ⟨w.heap.size+1,2,none⟩=some (.int .u64 0):=by rw[hW];simp
 have r3:W.cell? ⟨w.heap.size+1,3,none⟩=some (.pointer none):=by rw[hW];simp
 have fz:∀ j,W.frozen? ⟨w.heap.size+1,j,none⟩=false:=fun j=>by rw[hW];simp
 have hB:But [] w W:=by rw[hW];exact ((But.refl _ _).alloc _).alloc _
 rw[← hW]
 clear hW
 obtain⟨gr,hgr⟩:∃ gr,gr=w.heap.size+1:=⟨_,rfl⟩
 rw[← hgr] at r0 r1 r2 r3 fz
 rw[← hgr]
 have HGR:Hid (w.heap.size≤gr):=by show _≤_;omega
 clear hgr
 have grl:gr<W.heap.size:=ai r0
 refine (ae OF _).mono ?_
 rintro e w1 ⟨rfl,hb1⟩
 have u0:=hb1.ag r0 (by simp)
 have u1:=hb1.ag r1 (by simp)
 have u2:=hb1.ag r2 (by simp)
 have u3:=hb1.ag r3 (by simp)
 have uf:∀ j,w1.frozen? ⟨gr,j,none⟩=false:=fun j=>(hb1.frozen (p:=⟨gr,j,none⟩) grl (by simp)).trans (fz j)
 have HB1:Hid (But [] w w1):=hB.trans' hb1
 have gl1:gr<w1.heap.size:=ai u0
 clear hb1 hB r0 r1 r2 r3 fz grl
 go_wp2
 have hBf:=(((((ae HB1).setCell (p:=⟨gr,0,none⟩) (.inr (ae HGR)) (.bool r)).setCell (p:=⟨gr,1,none⟩) (.inr (ae HGR)) (.int .u64 p)).setCell (p:=⟨gr,2,none⟩) (.inr (ae HGR)) (.int .u64 q)).setCell (p:=⟨gr,3,none⟩) (.inr (ae HGR)) (.pointer none)).alloc (.cells #[.bool r,.int .u64 p,.int .u64 q,.pointer none] 27)
 exact bodyPost_ret (v:=.agg #[.bool r,.int .u64 p,.int .u64 q,.pointer none]) (by simp[results,results10,go_sem,u0,u1,u2,u3,gl1]) rfl ⟨rfl,hBf⟩))
end Go.Proofs.YtjlfllhedceigaaGreatDoor
namespace Go.Proofs
open Go.Proofs.Tryz
open Go.Shelf Go.RowKit
set_option linter.unusedVariables false
def Tryz.laysM171_ren : Go.Shelf.Ren := ⟨fun | 129 => 291 | 171 => 78 | 243 => 160 | 246 => 221 | 283 => 249 | 284 => 250 | 285 => 251 | 286 => 252 | 317 => 290 | 318 => 292 | 319 => 293 | 320 => 294 | 337 => 317 | 338 => 318 | n => n, fun | 0 => 0 | 2 => 2 | 3 => 3 | 4 => 4 | 5 => 5 | 9 => 9 | 20 => 20 | 37 => 141 | 46 => 224 | 51 => 284 | 53 => 24 | 171 => 320 | 173 => 323 | 212 => 349 | 213 => 350 | 232 => 377 | 233 => 378 | n => n, fun | 17 => 2 | 18 => 10 | 19 => 11 | n => n⟩
theorem Tryz.laysM171 : Go.Proofs.LaysM.n171 Tryz.prog Tryz.laysM171_ren := {
  mixed := by kernel_rfl
  f129 := Tryz.func291.trans (congrArg some (by kernel_rfl))
  f171 := Tryz.func78.trans (congrArg some (by kernel_rfl))
  f243 := Tryz.func160.trans (congrArg some (by kernel_rfl))
  f246 := Tryz.func221.trans (congrArg some (by kernel_rfl))
  f283 := Tryz.func249.trans (congrArg some (by kernel_rfl))
  f284 := Tryz.func250.trans (congrArg some (by kernel_rfl))
  f285 := Tryz.func251.trans (congrArg some (by kernel_rfl))
  f286 := Tryz.func252.trans (congrArg some (by kernel_rfl))
  f317 := Tryz.func290.trans (congrArg some (by kernel_rfl))
  f318 := Tryz.func292.trans (congrArg some (by kernel_rfl))
  f319 := Tryz.func293.trans (congrArg some (by kernel_rfl))
  f320 := Tryz.func294.trans (congrArg some (by kernel_rfl))
  f337 := Tryz.func317.trans (congrArg some (by kernel_rfl))
  f338 := Tryz.func318.trans (congrArg some (by kernel_rfl))
  t0 := Tryz.underlying0
  a0 := Tryz.isAgg0
  z0 := Tryz.sizeOf0
  v0 := Tryz.zeroValue0
  t2 := Tryz.underlying2
  a2 := Tryz.isAgg2
  z2 := Tryz.sizeOf2
  v2 := Tryz.zeroValue2
  t3 := Tryz.underlying3
  a3 := Tryz.isAgg3
  z3 := Tryz.sizeOf3
  v3 := Tryz.zeroValue3
  t4 := Tryz.underlying4
  a4 := Tryz.isAgg4
  z4 := Tryz.sizeOf4
  v4 := Tryz.zeroValue4
  t5 := Tryz.underlying5
  a5 := Tryz.isAgg5
  z5 := Tryz.sizeOf5
  v5 := Tryz.zeroValue5
  t9 := Tryz.underlying9
  a9 := Tryz.isAgg9
  z9 := Tryz.sizeOf9
  v9 := Tryz.zeroValue9
  t20 := Tryz.underlying20
  a20 := Tryz.isAgg20
  z20 := Tryz.sizeOf20
  v20 := Tryz.zeroValue20
  t37 := Tryz.underlying141
  a37 := Tryz.isAgg141
  z37 := Tryz.sizeOf141
  v37 := Tryz.zeroValue141
  t46 := Tryz.underlying224
  a46 := Tryz.isAgg224
  z46 := Tryz.sizeOf224
  v46 := Tryz.zeroValue224
  t51 := Tryz.underlying284
  a51 := Tryz.isAgg284
  z51 := Tryz.sizeOf284
  v51 := Tryz.zeroValue284
  t53 := Tryz.underlying24
  a53 := Tryz.isAgg24
  z53 := Tryz.sizeOf24
  v53 := Tryz.zeroValue24
  t171 := Tryz.underlying320
  a171 := Tryz.isAgg320
  z171 := Tryz.sizeOf320
  v171 := Tryz.zeroValue320
  t173 := Tryz.underlying323
  a173 := Tryz.isAgg323
  z173 := Tryz.sizeOf323
  v173 := Tryz.zeroValue323
  t212 := Tryz.underlying349
  a212 := Tryz.isAgg349
  z212 := Tryz.sizeOf349
  v212 := Tryz.zeroValue349
  t213 := Tryz.underlying350
  a213 := Tryz.isAgg350
  z213 := Tryz.sizeOf350
  t232 := Tryz.underlying377
  a232 := Tryz.isAgg377
  z232 := Tryz.sizeOf377
  v232 := Tryz.zeroValue377
  t233 := Tryz.underlying378
  a233 := Tryz.isAgg378
  z233 := Tryz.sizeOf378
  v233 := Tryz.zeroValue378
  g17 := by kernel_rfl
  m17 := by kernel_rfl
  g18 := by kernel_rfl
  m18 := by kernel_rfl
  g19 := by kernel_rfl
  m19 := by kernel_rfl
  i0 := by kernel_rfl
  i2 := by kernel_rfl
  i3 := by kernel_rfl
  i4 := by kernel_rfl
  i5 := by kernel_rfl
  i9 := by kernel_rfl
  i20 := by kernel_rfl
  i37 := by kernel_rfl
  i46 := by kernel_rfl
  i51 := by kernel_rfl
  i53 := by kernel_rfl
  i171 := by kernel_rfl
  i173 := by kernel_rfl
  i212 := by kernel_rfl
  i232 := by kernel_rfl
  i233 := by kernel_rfl }
end Go.Proofs
namespace Go.Proofs.YtjlfllhedceigaaGreatDoor
open Go.Proofs.Tryz
open Go.RowKit
theorem zxx (w:World) (k:Nat) (os:Array Obj):But [] w (Sort.grow (w.drewN k) os) :=
 ⟨rfl,rfl,rfl,by simp[Sort.grow],fun j hj _=>by simp[Sort.grow];exact Array.getElem?_append_left hj⟩
theorem zfl (z:Int) (h0:0≤z) (h1:z≤1000000000000000) (w:World) (htab:Lib.TabIs prog w "internal/strconv.uint64pow10" .u64 Lib.pow10Tab):Calls prog 78 #[.int .i64 z] w fun e w'=>e=.returned (.string ⟨(Lib.itoa z).toArray⟩)∧But [] w w' :=
 (Any.strconv_Itoa Tryz.laysM171 z (by omega) (by omega) w htab).mono (by rintro e w' ⟨rfl,k,os,rfl⟩;exact⟨rfl,zxx _ _ _⟩)
end Go.Proofs.YtjlfllhedceigaaGreatDoor
namespace Go.Proofs
open Go.Proofs.Tryz
open Go.Shelf Go.RowKit
def Tryz.lays145_ren : Go.Shelf.Ren := ⟨fun | 145 => 162 | 217 => 300 | 219 => 266 | 220 => 222 | 224 => 302 | 225 => 301 | 266 => 323 | 267 => 303 | 314 => 324 | n => n, fun | 3 => 3 | 4 => 4 | 5 => 5 | 9 => 9 | 46 => 224 | 51 => 284 | 59 => 233 | 146 => 366 | n => n, fun | 1 => 3 | n => n⟩
theorem Tryz.lays145 : Go.Proofs.Lays.n145 Tryz.prog Tryz.lays145_ren := {
  mixed := by kernel_rfl
  f145 := Tryz.func162.trans (congrArg some (by kernel_rfl))
  f217 := Tryz.func300.trans (congrArg some (by kernel_rfl))
  f219 := Tryz.func266.trans (congrArg some (by kernel_rfl))
  f220 := Tryz.func222.trans (congrArg some (by kernel_rfl))
  f224 := Tryz.func302.trans (congrArg some (by kernel_rfl))
  f225 := Tryz.func301.trans (congrArg some (by kernel_rfl))
  f266 := Tryz.func323.trans (congrArg some (by kernel_rfl))
  f267 := Tryz.func303.trans (congrArg some (by kernel_rfl))
  f314 := Tryz.func324.trans (congrArg some (by kernel_rfl))
  t3 := Tryz.underlying3
  a3 := Tryz.isAgg3
  z3 := Tryz.sizeOf3
  v3 := Tryz.zeroValue3
  t4 := Tryz.underlying4
  a4 := Tryz.isAgg4
  z4 := Tryz.sizeOf4
  v4 := Tryz.zeroValue4
  t5 := Tryz.underlying5
  a5 := Tryz.isAgg5
  z5 := Tryz.sizeOf5
  v5 := Tryz.zeroValue5
  t9 := Tryz.underlying9
  a9 := Tryz.isAgg9
  z9 := Tryz.sizeOf9
  v9 := Tryz.zeroValue9
  t46 := Tryz.underlying224
  a46 := Tryz.isAgg224
  z46 := Tryz.sizeOf224
  v46 := Tryz.zeroValue224
  t51 := Tryz.underlying284
  a51 := Tryz.isAgg284
  z51 := Tryz.sizeOf284
  v51 := Tryz.zeroValue284
  t59 := Tryz.underlying233
  a59 := Tryz.isAgg233
  z59 := Tryz.sizeOf233
  v59 := Tryz.zeroValue233
  t146 := Tryz.underlying366
  a146 := Tryz.isAgg366
  z146 := Tryz.sizeOf366
  v146 := Tryz.zeroValue366
  g1 := by kernel_rfl }
theorem zfm (d:UInt8):∀ (pre post:List UInt8),d ∉ pre→Lib.index (pre++d::post) [d]=(pre.length:Int)
 | [],post,_=>by simp[Lib.index,List.isPrefixOf]
 | b::l,post,h=>by
  have hb:¬ d=b:=fun e=>h (by simp[e])
  have ih:=zfm d l post (fun e=>h (by simp[e]))
  rw[List.cons_append,Lib.index,ih]
  have h1:([d].isPrefixOf (b::(l++d::post)))=false:=by simp[List.isPrefixOf,hb]
  rw[h1]
  have h2:(((l.length:Nat):Int)==-1)=false:=by rw[beq_eq_false_iff_ne];omega
  simp[h2]
theorem index_none (d:UInt8):∀ (l:List UInt8),d ∉ l→Lib.index l [d]=-1
 | [],_=>by simp[Lib.index]
 | b::l,h=>by
  have hb:¬ d=b:=fun e=>h (by simp[e])
  have ih:=index_none d l (fun e=>h (by simp[e]))
  rw[Lib.index,ih]
  have h1:([d].isPrefixOf (b::l))=false:=by simp[List.isPrefixOf,hb]
  rw[h1]
  simp
theorem zra (d:UInt8) (l:List UInt8) (h:d ∉ l):Lib.cut l [d]=(l,[],false):=by(
 unfold Lib.cut
 rw[index_none d l h]
 simp)
theorem zlf (d:UInt8) (pre post:List UInt8) (h:d ∉ pre):Lib.cut (pre++d::post) [d]=(pre,post,true):=by(
 unfold Lib.cut
 rw[zfm d pre post h,if_pos (by omega),Int.toNat_natCast]
 simp)
theorem Tryz.strings_Cut (t:ByteArray) (d:UInt8) (pre post:List UInt8) (m:Int) (w:World) (ht:t.data.toList=pre++d::post) (hd:d ∉ pre) (hs:t.size<4294967281) (hm:w.cell? ⟨3,0,none⟩=some (.int .i64 m)) :
   Calls prog 162 #[.string t,.string ⟨#[d]⟩] w fun e w'=>e=.returned (.tuple #[.string ⟨pre.toArray⟩,.string ⟨post.toArray⟩,.bool true])∧∃ n,w'=w.drewN n:=by(
 have h:=Any.strings_Cut Tryz.lays145 t ⟨#[d]⟩ m w hs hm
 rw[ht,show (⟨#[d]⟩:ByteArray).data.toList=[d] from rfl,zlf d pre post hd] at h
 exact h)
end Go.Proofs
namespace Go.Proofs
open Go.Proofs.Tryz
open Go.Shelf Go.RowKit
set_option linter.unusedVariables false
def Tryz.lays161_ren : Go.Shelf.Ren := ⟨fun | 119 => 326 | 137 => 325 | 151 => 270 | 152 => 306 | 161 => 164 | 197 => 269 | 217 => 300 | 224 => 302 | 225 => 301 | 227 => 224 | 228 => 268 | 231 => 223 | 233 => 225 | 235 => 226 | 260 => 305 | 266 => 323 | n => n, fun | 0 => 0 | 3 => 3 | 4 => 4 | 5 => 5 | 9 => 9 | 21 => 21 | 46 => 224 | 105 => 332 | 116 => 299 | 117 => 300 | 119 => 368 | 124 => 303 | 138 => 370 | 139 => 371 | n => n, fun | 3 => 6 | 4 => 7 | n => n⟩
theorem Tryz.lays161 : Go.Proofs.Lays.n161 Tryz.prog Tryz.lays161_ren := {
  mixed := by kernel_rfl
  f119 := Tryz.func326.trans (congrArg some (by kernel_rfl))
  f137 := Tryz.func325.trans (congrArg some (by kernel_rfl))
  f151 := Tryz.func270.trans (congrArg some (by kernel_rfl))
  f152 := Tryz.func306.trans (congrArg some (by kernel_rfl))
  f161 := Tryz.func164.trans (congrArg some (by kernel_rfl))
  f197 := Tryz.func269.trans (congrArg some (by kernel_rfl))
  f217 := Tryz.func300.trans (congrArg some (by kernel_rfl))
  f224 := Tryz.func302.trans (congrArg some (by kernel_rfl))
  f225 := Tryz.func301.trans (congrArg some (by kernel_rfl))
  f227 := Tryz.func224.trans (congrArg some (by kernel_rfl))
  f228 := Tryz.func268.trans (congrArg some (by kernel_rfl))
  f231 := Tryz.func223.trans (congrArg some (by kernel_rfl))
  f233 := Tryz.func225.trans (congrArg some (by kernel_rfl))
  f235 := Tryz.func226.trans (congrArg some (by kernel_rfl))
  f260 := Tryz.func305.trans (congrArg some (by kernel_rfl))
  f266 := Tryz.func323.trans (congrArg some (by kernel_rfl))
  t0 := Tryz.underlying0
  a0 := Tryz.isAgg0
  z0 := Tryz.sizeOf0
  v0 := Tryz.zeroValue0
  t3 := Tryz.underlying3
  a3 := Tryz.isAgg3
  z3 := Tryz.sizeOf3
  v3 := Tryz.zeroValue3
  t4 := Tryz.underlying4
  a4 := Tryz.isAgg4
  z4 := Tryz.sizeOf4
  v4 := Tryz.zeroValue4
  t5 := Tryz.underlying5
  a5 := Tryz.isAgg5
  z5 := Tryz.sizeOf5
  v5 := Tryz.zeroValue5
  t9 := Tryz.underlying9
  a9 := Tryz.isAgg9
  z9 := Tryz.sizeOf9
  v9 := Tryz.zeroValue9
  t21 := Tryz.underlying21
  a21 := Tryz.isAgg21
  z21 := Tryz.sizeOf21
  v21 := Tryz.zeroValue21
  t46 := Tryz.underlying224
  a46 := Tryz.isAgg224
  z46 := Tryz.sizeOf224
  v46 := Tryz.zeroValue224
  t105 := Tryz.underlying332
  a105 := Tryz.isAgg332
  z105 := Tryz.sizeOf332
  v105 := Tryz.zeroValue332
  t116 := Tryz.underlying299
  a116 := Tryz.isAgg299
  z116 := Tryz.sizeOf299
  t117 := Tryz.underlying300
  a117 := Tryz.isAgg300
  z117 := Tryz.sizeOf300
  v117 := Tryz.zeroValue300
  t119 := Tryz.underlying368
  a119 := Tryz.isAgg368
  z119 := Tryz.sizeOf368
  t124 := Tryz.underlying303
  a124 := Tryz.isAgg303
  z124 := Tryz.sizeOf303
  v124 := Tryz.zeroValue303
  t138 := Tryz.underlying370
  a138 := Tryz.isAgg370
  z138 := Tryz.sizeOf370
  v138 := Tryz.zeroValue370
  t139 := Tryz.underlying371
  a139 := Tryz.isAgg371
  z139 := Tryz.sizeOf371
  v139 := Tryz.zeroValue371
  g3 := by kernel_rfl
  g4 := by kernel_rfl }
def Tryz.lays172_ren : Go.Shelf.Ren := ⟨fun | 129 => 291 | 171 => 78 | 172 => 234 | 205 => 329 | 243 => 160 | 244 => 279 | 245 => 280 | 246 => 221 | 247 => 310 | 279 => 311 | 280 => 312 | 281 => 313 | 282 => 314 | 283 => 249 | 284 => 250 | 285 => 251 | 286 => 252 | 287 => 328 | 316 => 276 | 317 => 290 | 318 => 292 | 319 => 293 | 320 => 294 | 321 => 330 | 322 => 331 | 337 => 317 | 338 => 318 | n => n, fun | 0 => 0 | 2 => 2 | 3 => 3 | 4 => 4 | 5 => 5 | 9 => 9 | 20 => 20 | 21 => 21 | 37 => 141 | 46 => 224 | 51 => 284 | 53 => 24 | 80 => 35 | 75 => 29 | 76 => 144 | 85 => 359 | 127 => 231 | 143 => 380 | 145 => 382 | 167 => 358 | 168 => 361 | 171 => 320 | 173 => 323 | 175 => 373 | 210 => 376 | 212 => 349 | 213 => 350 | 232 => 377 | 233 => 378 | n => n, fun | 15 => 8 | 16 => 9 | 17 => 2 | 18 => 10 | 19 => 11 | n => n⟩
theorem Tryz.lays172 : Go.Proofs.Lays.n172 Tryz.prog Tryz.lays172_ren := {
  mixed := by kernel_rfl
  f129 := Tryz.func291.trans (congrArg some (by kernel_rfl))
  f171 := Tryz.func78.trans (congrArg some (by kernel_rfl))
  f172 := Tryz.func234.trans (congrArg some (by kernel_rfl))
  f205 := Tryz.func329.trans (congrArg some (by kernel_rfl))
  f243 := Tryz.func160.trans (congrArg some (by kernel_rfl))
  f244 := Tryz.func279.trans (congrArg some (by kernel_rfl))
  f245 := Tryz.func280.trans (congrArg some (by kernel_rfl))
  f246 := Tryz.func221.trans (congrArg some (by kernel_rfl))
  f247 := Tryz.func310.trans (congrArg some (by kernel_rfl))
  f279 := Tryz.func311.trans (congrArg some (by kernel_rfl))
  f280 := Tryz.func312.trans (congrArg some (by kernel_rfl))
  f281 := Tryz.func313.trans (congrArg some (by kernel_rfl))
  f282 := Tryz.func314.trans (congrArg some (by kernel_rfl))
  f283 := Tryz.func249.trans (congrArg some (by kernel_rfl))
  f284 := Tryz.func250.trans (congrArg some (by kernel_rfl))
  f285 := Tryz.func251.trans (congrArg some (by kernel_rfl))
  f286 := Tryz.func252.trans (congrArg some (by kernel_rfl))
  f287 := Tryz.func328.trans (congrArg some (by kernel_rfl))
  f316 := Tryz.func276.trans (congrArg some (by kernel_rfl))
  f317 := Tryz.func290.trans (congrArg some (by kernel_rfl))
  f318 := Tryz.func292.trans (congrArg some (by kernel_rfl))
  f319 := Tryz.func293.trans (congrArg some (by kernel_rfl))
  f320 := Tryz.func294.trans (congrArg some (by kernel_rfl))
  f321 := Tryz.func330.trans (congrArg some (by kernel_rfl))
  f322 := Tryz.func331.trans (congrArg some (by kernel_rfl))
  f337 := Tryz.func317.trans (congrArg some (by kernel_rfl))
  f338 := Tryz.func318.trans (congrArg some (by kernel_rfl))
  t0 := Tryz.underlying0
  a0 := Tryz.isAgg0
  z0 := Tryz.sizeOf0
  v0 := Tryz.zeroValue0
  t2 := Tryz.underlying2
  a2 := Tryz.isAgg2
  z2 := Tryz.sizeOf2
  v2 := Tryz.zeroValue2
  t3 := Tryz.underlying3
  a3 := Tryz.isAgg3
  z3 := Tryz.sizeOf3
  v3 := Tryz.zeroValue3
  t4 := Tryz.underlying4
  a4 := Tryz.isAgg4
  z4 := Tryz.sizeOf4
  v4 := Tryz.zeroValue4
  t5 := Tryz.underlying5
  a5 := Tryz.isAgg5
  z5 := Tryz.sizeOf5
  v5 := Tryz.zeroValue5
  t9 := Tryz.underlying9
  a9 := Tryz.isAgg9
  z9 := Tryz.sizeOf9
  v9 := Tryz.zeroValue9
  t20 := Tryz.underlying20
  a20 := Tryz.isAgg20
  z20 := Tryz.sizeOf20
  v20 := Tryz.zeroValue20
  t21 := Tryz.underlying21
  a21 := Tryz.isAgg21
  z21 := Tryz.sizeOf21
  v21 := Tryz.zeroValue21
  t37 := Tryz.underlying141
  a37 := Tryz.isAgg141
  z37 := Tryz.sizeOf141
  v37 := Tryz.zeroValue141
  t46 := Tryz.underlying224
  a46 := Tryz.isAgg224
  z46 := Tryz.sizeOf224
  v46 := Tryz.zeroValue224
  t51 := Tryz.underlying284
  a51 := Tryz.isAgg284
  z51 := Tryz.sizeOf284
  v51 := Tryz.zeroValue284
  t53 := Tryz.underlying24
  a53 := Tryz.isAgg24
  z53 := Tryz.sizeOf24
  v53 := Tryz.zeroValue24
  t75 := Tryz.underlying29
  a75 := Tryz.isAgg29
  z75 := Tryz.sizeOf29
  v75 := Tryz.zeroValue29
  t76 := Tryz.underlying144
  a76 := Tryz.isAgg144
  z76 := Tryz.sizeOf144
  v76 := Tryz.zeroValue144
  t85 := Tryz.underlying359
  a85 := Tryz.isAgg359
  z85 := Tryz.sizeOf359
  v85 := Tryz.zeroValue359
  t127 := Tryz.underlying231
  a127 := Tryz.isAgg231
  z127 := Tryz.sizeOf231
  v127 := Tryz.zeroValue231
  t143 := Tryz.underlying380
  a143 := Tryz.isAgg380
  z143 := Tryz.sizeOf380
  v143 := Tryz.zeroValue380
  t145 := Tryz.underlying382
  a145 := Tryz.isAgg382
  z145 := Tryz.sizeOf382
  v145 := Tryz.zeroValue382
  t167 := Tryz.underlying358
  a167 := Tryz.isAgg358
  z167 := Tryz.sizeOf358
  v167 := Tryz.zeroValue358
  t168 := Tryz.underlying361
  a168 := Tryz.isAgg361
  z168 := Tryz.sizeOf361
  v168 := Tryz.zeroValue361
  t171 := Tryz.underlying320
  a171 := Tryz.isAgg320
  z171 := Tryz.sizeOf320
  v171 := Tryz.zeroValue320
  t173 := Tryz.underlying323
  a173 := Tryz.isAgg323
  z173 := Tryz.sizeOf323
  v173 := Tryz.zeroValue323
  t175 := Tryz.underlying373
  a175 := Tryz.isAgg373
  z175 := Tryz.sizeOf373
  v175 := Tryz.zeroValue373
  t210 := Tryz.underlying376
  a210 := Tryz.isAgg376
  z210 := Tryz.sizeOf376
  v210 := Tryz.zeroValue376
  t212 := Tryz.underlying349
  a212 := Tryz.isAgg349
  z212 := Tryz.sizeOf349
  v212 := Tryz.zeroValue349
  t213 := Tryz.underlying350
  a213 := Tryz.isAgg350
  z213 := Tryz.sizeOf350
  t232 := Tryz.underlying377
  a232 := Tryz.isAgg377
  z232 := Tryz.sizeOf377
  v232 := Tryz.zeroValue377
  t233 := Tryz.underlying378
  a233 := Tryz.isAgg378
  z233 := Tryz.sizeOf378
  v233 := Tryz.zeroValue378
  g15 := by kernel_rfl
  g16 := by kernel_rfl
  g17 := by kernel_rfl
  g18 := by kernel_rfl
  g19 := by kernel_rfl }
end Go.Proofs
namespace Go.Proofs.YtjlfllhedceigaaGreatDoor
open Go.Proofs.Tryz
open Go.RowKit Go.Shelf
set_option linter.unusedVariables false
theorem znd (u:Nat):Lib.decDigits u≠[]:=by
 rw[Lib.decDigits]
 split <;> simp
theorem zej (u:Nat):∀ b ∈ Lib.decDigits u,48≤b.toNat∧b.toNat≤57:=by(
 induction u using Nat.strongRecOn with
 | _ u ih =>
  intro b hb
  rw[Lib.decDigits] at hb
  by_cases h:u<10
  ·rw[dif_pos h] at hb
   simp only[List.mem_cons,List.not_mem_nil,or_false] at hb
   subst hb
   have e:(UInt8.ofNat (48+u)).toNat=48+u:=by simp;omega
   omega
  ·rw[dif_neg h] at hb
   rcases List.mem_append.1 hb with hb | hb
   ·exact ih _ (by omega) b hb
   ·simp only[List.mem_cons,List.not_mem_nil,or_false] at hb
    subst hb
    have e:(UInt8.ofNat (48+u%10)).toNat=48+u%10:=by simp;omega
    omega)
theorem zbz:∀ (k u:Nat),u<10^(k+1)→(Lib.decDigits u).length≤k+1
 | 0,u,h=>by
  rw[Lib.decDigits,dif_pos (by omega)]
  simp
 | k+1,u,h=>by
  rw[Lib.decDigits]
  split
  ·simp
  ·rw[List.length_append]
   have:=zbz k (u/10) (by rw[Nat.pow_succ] at h;omega)
   simp
   omega
theorem zuz (z:Int) (h:0≤z):Lib.itoa z=Lib.decDigits z.toNat:=by unfold Lib.itoa;rw[if_neg (by omega)]
attribute [local go_sem] Oper.semAt_some
def jn (d:UInt8):List (List UInt8)→List UInt8
 | []=>[]
 | [x]=>x
 | x::y::l=>x++d::jn d (y::l)
def tlw (d:UInt8) (l:List (List UInt8)):List UInt8:=match l with
 | []=>[]
 | y::l=>d::jn d (y::l)
theorem qfv (d:UInt8) (x:List UInt8) (l:List (List UInt8)):jn d (x::l)=x++tlw d l:=by(
 cases l with
 | nil=>simp[jn,tlw]
 | cons y l=>rfl)
def zae (d:UInt8) (ws:List (List UInt8)) (k:Nat):List UInt8:=if k=0 then jn d ws else tlw d (ws.drop k)
theorem drop_cons {α:Type} (l:List α) (k:Nat) (h:k<l.length):l.drop k=l[k]::l.drop (k+1):=List.drop_eq_getElem_cons h
theorem ziy (d:UInt8) (ws:List (List UInt8)) (k:Nat) (h:k<ws.length):jn d (ws.drop k)=ws[k]++zae d ws (k+1):=by(
 rw[drop_cons ws k h,qfv]
 unfold zae
 rw[if_neg (by omega)])
theorem zge (d:UInt8) (ws:List (List UInt8)) (k:Nat) (h:k<ws.length):zae d ws k=jn d (ws.drop k)∨zae d ws k=d::jn d (ws.drop k):=by(
 unfold zae
 by_cases h0:k=0
 ·subst h0;left;simp
 ·right
  rw[if_neg h0,drop_cons ws k h]
  rfl)
theorem zyn (d:UInt8) (ws:List (List UInt8)):zae d ws ws.length=[]:=by(
 unfold zae
 cases ws with
 | nil=>rfl
 | cons x l=>rw[if_neg (by simp)];simp[tlw])
theorem tail_suffix (d:UInt8) (ws:List (List UInt8)):∀ k,k≤ws.length→∃ p,jn d ws=p++zae d ws k
 | 0,_=>⟨[],rfl⟩
 | k+1,h=>by
  obtain⟨p,hp⟩:=tail_suffix d ws k (by omega)
  have hd:=ziy d ws k (by omega)
  rcases zge d ws k (by omega) with e | e
  ·exact⟨p++ws[k],by rw[hp,e,hd,List.append_assoc]⟩
  ·exact⟨p++d::ws[k],by rw[hp,e,hd,List.append_assoc];rfl⟩
theorem zvp (d:UInt8) (ws:List (List UInt8)) (k:Nat) (h:k≤ws.length) (hw:∀ x ∈ ws,x≠[]∧d ∉ x):Lib.trimLeftB (zae d ws k) d=jn d (ws.drop k):=by(
 rcases Nat.lt_or_ge k ws.length with hk | hk
 ·(
 have hx:=hw _ (List.getElem_mem hk)
 have hd:=ziy d ws k hk
 obtain⟨a,l,ea⟩:∃ a l,ws[k]=a::l:=by
  cases e:ws[k] with
  | nil=>exact absurd e hx.1
  | cons a l=>exact⟨a,l,rfl⟩
 have hne:¬ a=d:=fun e=>hx.2 (by rw[ea,e];simp)
 have hb:(a==d)=false:=by rw[beq_eq_false_iff_ne];exact hne
 have hj:Lib.trimLeftB (jn d (ws.drop k)) d=jn d (ws.drop k):=by
  rw[hd,ea]
  simp[Lib.trimLeftB,hne]
 rcases zge d ws k hk with e | e
 ·rw[e,hj]
 ·rw[e]
  unfold Lib.trimLeftB at hj ⊢
  rw[List.dropWhile_cons_of_pos (by simp)]
  exact hj)
 ·obtain rfl:k=ws.length:=by omega
  rw[zyn]
  simp[Lib.trimLeftB,jn])
def zcy (f:Rat):List UInt8:=(uh (decide (f.num<0)) f.num.natAbs f.den).data.toList
def zpb (x:List UInt8):Prop:=(x≠[]∧(32:UInt8) ∉ x∧(10:UInt8) ∉ x)∧x.length≤60
theorem zlb (f:Rat):zcy f=(if f.num<0 then 45::Lib.decDigits f.num.natAbs else Lib.decDigits f.num.natAbs)++(if f.den=1 then [] else 47::Lib.decDigits f.den):=by
 unfold zcy uh
 by_cases h1:f.num<0 <;> by_cases h2:f.den=1 <;> simp[h1,h2]
theorem zqw (f:Rat) (hN:f.num.natAbs < 18446744073709551616) (hD:f.den < 18446744073709551616):zpb (zcy f):=by(
 have d1:=zbz 19 f.num.natAbs (by omega)
 have d2:=zbz 19 f.den (by omega)
 have n1:=znd f.num.natAbs
 have nB:∀ (u:UInt8) n,u ∈ Lib.decDigits n→48≤u.toNat∧u.toNat≤57:=fun u n h=>zej n u h
 have k:∀ u:UInt8,(u=32∨u=10)→u ∉ zcy f:=fun u hu hm=>by
  rw[zlb] at hm
  have a1:u ∉ Lib.decDigits f.num.natAbs:=fun h=>by have:=nB u _ h;rcases hu with rfl|rfl <;> simp at this
  have a2:u ∉ Lib.decDigits f.den:=fun h=>by have:=nB u _ h;rcases hu with rfl|rfl <;> simp at this
  rcases List.mem_append.1 hm with h | h
  ·split at h
   ·rcases List.mem_cons.1 h with h | h
    ·subst h;simp at hu
    ·exact a1 h
   ·exact a1 h
  ·split at h
   ·simp at h
   ·rcases List.mem_cons.1 h with h | h
    ·subst h;simp at hu
    ·exact a2 h
 refine⟨⟨?_,k 32 (.inl rfl),k 10 (.inr rfl)⟩,?_⟩
 ·(
 rw[zlb]
 intro h
 have:=(List.append_eq_nil_iff.1 h).1
 split at this
 ·simp at this
 ·exact n1 this)
 ·rw[zlb,List.length_append]
  split <;> split <;> simp only[List.length_cons,List.length_nil] <;> omega)
theorem zqp (d:UInt8) (m:Nat):∀ xs:List (List UInt8),(∀ x ∈ xs,x.length≤m)→(jn d xs).length≤xs.length*(m+1)
 | [],_=>by simp[jn]
 | [x],h=>by
  have:=h x (by simp)
  simp only[jn,List.length_cons,List.length_nil]
  omega
 | x::y::l,h=>by
  have h1:=h x (by simp)
  have h2:=zqp d m (y::l) (fun z hz=>h z (List.mem_cons_of_mem _ hz))
  simp only[jn,List.length_append,List.length_cons] at h2 ⊢
  rw[Nat.add_mul (l.length+1) 1,Nat.one_mul]
  omega
end Go.Proofs.YtjlfllhedceigaaGreatDoor
