/- Lists of fractions in memory.  -/
import Derived.Laws.AppendOwn
import Derived.Test.YtcgecpoedojhjaaGreatDoorKPC1
import Derived.Test.YtcgecpoedojhjaaGreatDoorKPF13
namespace Go.Proofs.YtcgecpoedojhjaaGreatDoor
open Go.Proofs.Tryz
open Go.RowKit
set_option maxHeartbeats 8000000
set_option maxRecDepth 100000
def P4o (w:World) (b o:Nat) (s:Bool) (x y:Int) (p:Option Addr):Prop:=w.cell? ⟨b,o,none⟩=some (.bool s)∧w.cell? ⟨b,o+1,none⟩=some (.int .u64 x)∧w.cell? ⟨b,o+2,none⟩=some (.int .u64 y)∧w.cell? ⟨b,o+3,none⟩=some (.pointer p)
theorem P4o.but {w w':World} {b o:Nat} {s:Bool} {x y:Int} {p:Option Addr} {l:List Nat} (h:P4o w b o s x y p) (hb:But l w w') (hn:b ∉ l):P4o w' b o s x y p:=⟨hb.zb h.1 hn,hb.zb h.2.1 hn,hb.zb h.2.2.1 hn,hb.zb h.2.2.2 hn⟩
theorem zdy {ops:Array Oper} {ps:List (Nat × Nat)} (h:wu ops ps=true) {i:Nat} {o:Oper} (ho:ops[i]? = some o) (R:Nat→Prop) (hdep:∀ e ∈ o.after,Region.binds .any e=true→R e.on) (j:Nat) (hij:(i,j) ∈ ps):R j:=by
 obtain⟨o',ho',ed,hed,hbi,rfl⟩:=zwj h i j hij
 rw[ho] at ho'
 obtain rfl:=Option.some.inj ho'
 exact hdep ed hed hbi
def zq (kd:Int) (s:Bool) (x y:Int) (p:Option Addr) (fr li ti pr:Int) (to:ByteArray):Value:=.agg #[.int .i64 kd,.bool s,.int .u64 x,.int .u64 y,.pointer p,.int .i64 fr,.int .i64 li,.int .i64 ti,.int .i64 pr,.string to]
theorem zo (n m:Int) (w:World) :
  Calls prog 48 #[.int .i64 n,.int .i64 m] w fun e w'=>e=.returned (.bool (decide (0≤n∧n≤m)))∧w'=w:=by
 by_cases h1:0≤n
 ·by_cases h2:n≤m
  ·rw[decide_eq_true ⟨h1,h2⟩]
   go_enter func48,ntmps48
   go_wp2
   exact bodyPost_ret (v:=.bool true) (by simp[results,results48,go_sem]) rfl ⟨rfl,rfl⟩
  ·rw[decide_eq_false (fun h=>h2 h.2)]
   go_enter func48,ntmps48
   go_wp2
   exact bodyPost_ret (v:=.bool false) (by simp[results,results48,go_sem]) rfl ⟨rfl,rfl⟩
 ·rw[decide_eq_false (fun h=>h1 h.1)]
  go_enter func48,ntmps48
  go_wp2
  exact bodyPost_ret (v:=.bool false) (by simp[results,results48,go_sem]) rfl ⟨rfl,rfl⟩
def abI (fr li n:Int):Int:=min (max (n-fr) 0) li
theorem zpo (kd:Int) (s:Bool) (x y:Int) (p:Option Addr) (fr li ti pr:Int) (to:ByteArray) (n:Int) (w:World) (h1:-1000000000000000≤n∧n≤1000000000000000) (h2:0≤fr∧fr≤1000000000000) :
  Calls prog 31 #[zq kd s x y p fr li ti pr to,.int .i64 n] w fun e w'=>e=.returned (.int .i64 (abI fr li n))∧But [] w w':=by
 unfold zq abI
 obtain⟨d,hd⟩:∃ d,n-fr=d:=⟨_,rfl⟩
 have hb:-9223372036854775808≤n-fr∧n-fr<9223372036854775808:=by omega
 go_enter func31,ntmps31
 go_wp2
 all_goals exact bodyPost_ret (v:=.int .i64 (min (max d 0) li)) (by simp[results,results31,go_sem] <;> (try split) <;> omega) rfl ⟨by first|rfl | rw[hd],(But.refl _ _).alloc _⟩
def ru (s:Bool) (p q:Nat):ByteArray:=(if s then ⟨#[45]⟩++⟨(Lib.decDigits p).toArray⟩ else ⟨(Lib.decDigits p).toArray⟩)++(if q=1 then ⟨#[]⟩ else ⟨#[47]⟩++⟨(Lib.decDigits q).toArray⟩)
theorem zph (u:Nat) (h:(wd 18446744073709551616 u).length≤1000000):(Lib.decDigits u).length≤20000000:=by
 rcases Nat.eq_zero_or_pos u with rfl | h0
 ·rw[Lib.decDigits_length,Lib.nDigits_small (by omega)];omega
 ·rw[← zla u h0,List.length_reverse];exact zxv u 1000000 h
theorem qgp (t:ByteArray):t++⟨#[]⟩=t:=by
 cases t;simp[ByteArray.ext_iff]
theorem zck (v:Value) (f:Rat) (w:World) (hf:zi w v f) (hL:Len f 1000000) (htab:Lib.TabIs prog w "internal/strconv.uint64pow10" .u64 Lib.pow10Tab) (t:ByteArray) (ht:Hid (t=ru (decide (f.num<0)) f.num.natAbs f.den)) :
  Calls prog 21 #[v] w fun e w'=>e=.returned (.string t)∧But [] w w':=by
 have hq0:=den_pos f
 obtain⟨hN,hD⟩:=hL
 obtain⟨tp,htp⟩:∃ tp:ByteArray,tp=⟨(Lib.decDigits f.num.natAbs).toArray⟩:=⟨_,rfl⟩
 obtain⟨tq,htq⟩:∃ tq:ByteArray,tq=⟨(Lib.decDigits f.den).toArray⟩:=⟨_,rfl⟩
 have sp:tp.size≤20000000:=by rw[htp];exact zph _ hN
 have sq:tq.size≤20000000:=by rw[htq];exact zph _ hD
 have HNU:Hid (∀ W,But [] w W→Calls prog 41 #[v] W fun e w'=>∃ v1 v2,e=.returned (.tuple #[v1,v2])∧Sl .u64 w' v1 (wd 18446744073709551616 f.num.natAbs)∧Sl .u64 w' v2 (wd 18446744073709551616 f.den)∧But [] W w'):=fun W hb=>fu v f W (hf.but hb)
 have T1:Hid (∀ W v1,But [] w W→Sl .u64 W v1 (wd 18446744073709551616 f.num.natAbs)→Calls prog 42 #[v1] W fun e w'=>e=.returned (.string tp)∧But [] W w'):=fun W v1 hb h=>zif v1 _ W h hN (TabIs.but htab hb) tp htp
 have T2:Hid (∀ W v1,But [] w W→Sl .u64 W v1 (wd 18446744073709551616 f.den)→Calls prog 42 #[v1] W fun e w'=>e=.returned (.string tq)∧But [] W w'):=fun W v1 hb h=>zif v1 _ W h hD (TabIs.but htab hb) tq htq
 have HT:Hid (t=(if decide (f.num<0) then ⟨#[45]⟩++tp else tp)++(if f.den=1 then ⟨#[]⟩ else ⟨#[47]⟩++tq)):=by show _=_;rw[za ht,ru,htp,htq]
 have ONE:Hid (∀ W v1 (r:Bool),Hid (r=decide (f.den=1))→Sl .u64 W v1 (wd 18446744073709551616 f.den)→Calls prog 43 #[v1] W fun e w'=>e=.returned (.bool r)∧w'=W):=fun W v1 r hr h=>fw v1 _ W h (by omega) r hr
 obtain⟨x,y,p,rfl,-⟩:=hf.agg
 have hbw:But [] w (w.alloc (.cells #[.bool (decide (f.num<0)),.int .u64 x,.int .u64 y,.pointer p] 35)):=(But.refl _ _).alloc _
 clear htp htq ht htab hN hD hf
 generalize hs:decide (f.num<0)=s at *
 clear hs
 go_enter func21,ntmps21
 go_wp2_with fail
 refine (za HNU _ hbw).mono ?_
 rintro e w1 ⟨v1,v2,rfl,hv1,hv2,hb1⟩
 have B1:=hide (hbw.trans' hb1)
 have HV1:=hide hv1
 have HV2:=hide hv2
 have c0:=hb1.zb (show (w.alloc (.cells #[.bool s,.int .u64 x,.int .u64 y,.pointer p] 35)).cell? ⟨w.heap.size,0,none⟩=some (.bool s) by simp) (by simp)
 clear hv1 hv2 hb1
 go_wp2_with fail
 refine (za T1 _ v1 (za B1) (za HV1)).mono ?_
 rintro e w2 ⟨rfl,hb2⟩
 have d0:=hb2.zb c0 (by simp)
 have B2:Hid (But [] w w2):=(za B1).trans' hb2
 have HV3:=hide ((za HV2).ze hb2)
 clear hb2 c0 HV2 hbw
 cases s
 all_goals
  go_wp2_with fail
  by_cases hq1:f.den=1
  ·refine (za ONE _ v2 true (by show true=_;simp[hq1]) (za HV3)).mono ?_
   rintro e w3 ⟨rfl,hw⟩
   obtain rfl:=hw.symm
   clear hw
   go_wp2
   go_ret
   exact⟨by rw[za HT,if_pos hq1,qgp];rfl,za B2⟩
  ·refine (za ONE _ v2 false (by show false=_;simp[hq1]) (za HV3)).mono ?_
   rintro e w3 ⟨rfl,hw⟩
   obtain rfl:=hw.symm
   clear hw
   go_wp2_with fail
   refine (za T2 _ v2 (za B2) (za HV3)).mono ?_
   rintro e w3 ⟨rfl,hb3⟩
   go_wp2
   go_ret
   exact⟨by rw[za HT,if_neg hq1];rfl,(za B2).trans' hb3⟩
theorem qpw (s:Bool) (p q:Nat) (hq:0<q) (hc:Nat.Coprime p q):∃ f:Rat,f.num=sgn s p∧f.den=q :=
 ⟨⟨sgn s p,q,by omega,by rw[jg];exact hc⟩,rfl,rfl⟩
theorem qiv (x y:Nat) (hy:0<y):Nat.Coprime (x/Nat.gcd x y) (y/Nat.gcd x y):=Nat.coprime_div_gcd_div_gcd (Nat.gcd_pos_of_pos_right _ hy)
theorem mi {f:Rat} {m n:Nat} (h1:f.num.natAbs < 18446744073709551616^m) (h2:f.den < 18446744073709551616^n) (k:Nat) (hm:m≤k) (hn:n≤k):Len f k :=
 ⟨Nat.le_trans (zt (by omega) _ _ h1) hm,Nat.le_trans (zt (by omega) _ _ h2) hn⟩
theorem Len.mono {f:Rat} {m n:Nat} (h:Len f m) (hn:m≤n):Len f n:=⟨Nat.le_trans h.1 hn,Nat.le_trans h.2 hn⟩
theorem Len.lt {f:Rat} {m:Nat} (h:Len f m):f.num.natAbs < 18446744073709551616^m∧f.den < 18446744073709551616^m:=⟨zw (by omega) _ _ h.1,zw (by omega) _ _ h.2⟩
theorem zjo {f g:Rat} {m n:Nat} (h1:Len f m) (h2:Len g n) (k:Nat) (hk:m+n≤k):Len (f*g) k:=by
 obtain⟨a1,a2⟩:=h1.lt
 obtain⟨c1,c2⟩:=h2.lt
 obtain⟨e1,e2⟩:=zqm f g _ _ rfl rfl
 refine mi (m:=m+n) (n:=m+n) ?_ ?_ k hk hk
 ·rw[e1,jg,Nat.pow_add]
  exact Nat.mul_lt_mul'' (Nat.lt_of_le_of_lt (Nat.div_le_self _ _) a1) (Nat.lt_of_le_of_lt (Nat.div_le_self _ _) c1)
 ·rw[e2,Nat.pow_add]
  exact Nat.mul_lt_mul'' (Nat.lt_of_le_of_lt (Nat.div_le_self _ _) a2) (Nat.lt_of_le_of_lt (Nat.div_le_self _ _) c2)
theorem zxk {f g:Rat} {m n:Nat} (h1:Len f m) (h2:Len g n) (k:Nat) (hk:m+n+1≤k):Len (f+g) k:=by
 obtain⟨a1,a2⟩:=h1.lt
 obtain⟨c1,c2⟩:=h2.lt
 obtain⟨M,s,hM⟩:∃ (M:Nat) (s:Bool),f.num*(g.den/Nat.gcd f.den g.den:Nat)+g.num*(f.den/Nat.gcd f.den g.den:Nat)=sgn s M:=by
  generalize f.num*(g.den/Nat.gcd f.den g.den:Nat)+g.num*(f.den/Nat.gcd f.den g.den:Nat)=z
  by_cases hz:z<0
  ·exact⟨z.natAbs,true,by simp[sgn];omega⟩
  ·exact⟨z.natAbs,false,by simp[sgn];omega⟩
 obtain⟨e1,e2⟩:=zri f g s M _ _ rfl rfl hM
 have hMl:M < 18446744073709551616^(m+n+1):=by
  have h3:M≤f.num.natAbs*(g.den/Nat.gcd f.den g.den)+g.num.natAbs*(f.den/Nat.gcd f.den g.den):=by
   rw[← jg s M,← hM]
   refine Nat.le_trans (Int.natAbs_add_le _ _) ?_
   rw[Int.natAbs_mul,Int.natAbs_mul,Int.natAbs_natCast,Int.natAbs_natCast]
   exact Nat.le_refl _
  have h4:f.num.natAbs*(g.den/Nat.gcd f.den g.den) < 18446744073709551616^m * 18446744073709551616^n:=Nat.mul_lt_mul'' a1 (Nat.lt_of_le_of_lt (Nat.div_le_self _ _) c2)
  have h5:g.num.natAbs*(f.den/Nat.gcd f.den g.den) < 18446744073709551616^n * 18446744073709551616^m:=Nat.mul_lt_mul'' c1 (Nat.lt_of_le_of_lt (Nat.div_le_self _ _) a2)
  rw[Nat.mul_comm (18446744073709551616^n)] at h5
  rw[Nat.pow_succ,Nat.pow_add]
  generalize 18446744073709551616^m * 18446744073709551616^n=P at *
  omega
 refine mi (m:=m+n+1) (n:=m+n) ?_ ?_ k hk (by omega)
 ·rw[e1,jg];exact Nat.lt_of_le_of_lt (Nat.div_le_self _ _) hMl
 ·rw[e2,Nat.pow_add]
  exact Nat.mul_lt_mul'' (Nat.lt_of_le_of_lt (Nat.div_le_self _ _) a2) (Nat.lt_of_le_of_lt (Nat.div_le_self _ _) c2)
theorem qiq {f:Rat} {m:Nat} (h:Len f m):Len (-f) m:=by
 unfold Len
 rw[Rat.neg_num,Rat.neg_den,Int.natAbs_neg]
 exact h
theorem qip {f g:Rat} {m n:Nat} (h1:Len f m) (h2:Len g n) (k:Nat) (hk:m+n+1≤k):Len (f-g) k:=by
 rw[Rat.sub_eq_add_neg];exact zxk h1 (qiq h2) k hk
theorem qir {f:Rat} {m:Nat} (h:Len f m) (h0:f.num≠0):Len f⁻¹ m:=by
 obtain⟨i1,i2,-⟩:=zhg f h0
 unfold Len
 rw[i1,i2]
 exact⟨h.2,h.1⟩
theorem qsz (x y:Int) (p q k:Nat) (hx:x.natAbs=p*k) (hy:y.natAbs=q*k):sgn (decide (x<0) != decide (y<0)) p*y=x*q:=by
 have ex:x=sgn (decide (x<0)) (p*k):=by
  by_cases h:x<0
  ·simp[sgn,h];omega
  ·simp[sgn,h];omega
 have ey:y=sgn (decide (y<0)) (q*k):=by
  by_cases h:y<0
  ·simp[sgn,h];omega
  ·simp[sgn,h];omega
 generalize decide (x<0)=a at *
 generalize decide (y<0)=b at *
 rw[ex,ey]
 cases a <;> cases b <;> simp[sgn,Int.natCast_mul] <;> grind
theorem zhk (x y:Int) (hx1:-9223372036854775808≤x) (hx2:x<9223372036854775808) (hy1:-9223372036854775808≤y) (hy2:y<9223372036854775808) (hy0:y≠0) :
  ∃ (f:Rat) (r:Bool) (p q:Int),Len f 1∧f.num*y=x*f.den∧(∀ W,zi W (.agg #[.bool r,.int .u64 p,.int .u64 q,.pointer none]) f)∧∀ W,Calls prog 22 #[.int .i64 x,.int .i64 y] W fun e w'=>e=.returned (.tuple #[.agg #[.bool r,.int .u64 p,.int .u64 q,.pointer none],.nilIface])∧But [] W w':=by
 have hyp:0<y.natAbs:=by omega
 have hg:0<Nat.gcd x.natAbs y.natAbs:=Nat.gcd_pos_of_pos_right _ hyp
 have hd1:=Nat.div_mul_cancel (Nat.gcd_dvd_left x.natAbs y.natAbs)
 have hd2:=Nat.div_mul_cancel (Nat.gcd_dvd_right x.natAbs y.natAbs)
 have hq0:0<y.natAbs/Nat.gcd x.natAbs y.natAbs:=Nat.div_pos (Nat.le_of_dvd hyp (Nat.gcd_dvd_right _ _)) hg
 have hpB:x.natAbs/Nat.gcd x.natAbs y.natAbs < 18446744073709551616:=Nat.lt_of_le_of_lt (Nat.div_le_self _ _) (by omega)
 have hqB:y.natAbs/Nat.gcd x.natAbs y.natAbs < 18446744073709551616:=Nat.lt_of_le_of_lt (Nat.div_le_self _ _) (by omega)
 obtain⟨f,hn,hd⟩:=qpw (decide (x<0) != decide (y<0)) _ _ hq0 (qiv x.natAbs y.natAbs hyp)
 have habs:f.num.natAbs=x.natAbs/Nat.gcd x.natAbs y.natAbs:=by rw[hn,jg]
 refine⟨f,decide (f.num<0),(f.num.natAbs:Int),(f.den:Int)-1,?_,?_,fun W=>.inl ⟨by rw[habs];exact hpB,by rw[hd];exact hqB,rfl⟩,fun W=>?_⟩
 ·exact mi (m:=1) (n:=1) (by rw[habs,Nat.pow_one];exact hpB) (by rw[hd,Nat.pow_one];exact hqB) 1 (Nat.le_refl _) (Nat.le_refl _)
 ·rw[hn,hd]
  exact qsz x y _ _ _ hd1.symm hd2.symm
 ·rw[habs,hd]
  exact zwf x y hx1 hx2 hy1 hy2 hy0 W _ _ _ (by show _=_;rw[hn,zce]) rfl rfl
theorem zve (x y:Int) (hx1:-9223372036854775808≤x) (hx2:x<9223372036854775808) (hy1:-9223372036854775808≤y) (hy2:y<9223372036854775808) :
  ∃ (f:Rat) (r:Bool) (p q:Int),Len f 1∧f.num*(if y=0 then 1 else y)=x*f.den∧(∀ W,zi W (.agg #[.bool r,.int .u64 p,.int .u64 q,.pointer none]) f)∧∀ W,Calls prog 9 #[.agg #[.int .i64 x,.int .i64 y]] W fun e w'=>e=.returned (.agg #[.bool r,.int .u64 p,.int .u64 q,.pointer none])∧But [] W w':=by
 by_cases hy0:y=0
 ·subst hy0
  obtain⟨f,r,p,q,h1,h2,h3,h4⟩:=zhk x 1 hx1 hx2 (by omega) (by omega) (by omega)
  refine⟨f,r,p,q,h1,by rw[if_pos rfl];exact h2,h3,fun w=>?_⟩
  have OF:=hide h4
  clear h1 h2 h3 h4
  go_enter func9,ntmps9
  go_wp2_with fail
  obtain⟨W,hW⟩:∃ W,W=(w.alloc (.cells #[.int .i64 x,.int .i64 1] 41)).alloc (.cells #[.bool false,.int .u64 0,.int .u64 0,.pointer none] 35):=⟨_,rfl⟩
  have r0:W.cell? ⟨w.heap.size+1,0,none⟩=some (.bool false):=by rw[hW];simp
  have r1:W.cell? ⟨w.heap.size+1,1,none⟩=some (.int .u64 0):=by rw[hW];simp
  have r2:W.cell? ⟨w.heap.size+1,2,none⟩=some (.int .u64 0):=by rw[hW];simp
  have r3:W.cell? ⟨w.heap.size+1,3,none⟩=some (.pointer none):=by rw[hW];simp
  have fz:∀ j,W.frozen? ⟨w.heap.size+1,j,none⟩=false:=fun j=>by rw[hW];simp
  have hB:But [] w W:=by rw[hW];exact ((But.refl _ _).alloc _).alloc _
  rw[← hW]
  clear hW
  obtain⟨gr,hgr⟩:∃ gr,gr=w.heap.size+1:=⟨_,rfl⟩
  rw[← hgr] at r0 r1 r2 r3 fz
  rw[← hgr]
  have HGR:Hid (w.heap.size≤gr):=by show _≤_;omega
  clear hgr
  have grl:gr<W.heap.size:=lt_of_cell r0
  refine (za OF _).mono ?_
  rintro e w1 ⟨rfl,hb1⟩
  have u0:=hb1.zb r0 (by simp)
  have u1:=hb1.zb r1 (by simp)
  have u2:=hb1.zb r2 (by simp)
  have u3:=hb1.zb r3 (by simp)
  have uf:∀ j,w1.frozen? ⟨gr,j,none⟩=false:=fun j=>(hb1.frozen (p:=⟨gr,j,none⟩) grl (by simp)).trans (fz j)
  have HB1:Hid (But [] w w1):=hB.trans' hb1
  have gl1:gr<w1.heap.size:=lt_of_cell u0
  clear hb1 hB r0 r1 r2 r3 fz grl
  go_wp2
  have hBf:=(((((za HB1).setCell (p:=⟨gr,0,none⟩) (.inr (za HGR)) (.bool r)).setCell (p:=⟨gr,1,none⟩) (.inr (za HGR)) (.int .u64 p)).setCell (p:=⟨gr,2,none⟩) (.inr (za HGR)) (.int .u64 q)).setCell (p:=⟨gr,3,none⟩) (.inr (za HGR)) (.pointer none)).alloc (.cells #[.bool r,.int .u64 p,.int .u64 q,.pointer none] 35)
  exact bodyPost_ret (v:=.agg #[.bool r,.int .u64 p,.int .u64 q,.pointer none]) (by simp[results,results9,go_sem,u0,u1,u2,u3,gl1]) rfl ⟨rfl,hBf⟩
 ·obtain⟨f,r,p,q,h1,h2,h3,h4⟩:=zhk x y hx1 hx2 hy1 hy2 hy0
  refine⟨f,r,p,q,h1,by rw[if_neg hy0];exact h2,h3,fun w=>?_⟩
  have n0:(y==0)=false:=by simp[hy0]
  have OF:=hide h4
  clear h1 h2 h3 h4
  go_enter func9,ntmps9
  go_wp2_with fail
  obtain⟨W,hW⟩:∃ W,W=(w.alloc (.cells #[.int .i64 x,.int .i64 y] 41)).alloc (.cells #[.bool false,.int .u64 0,.int .u64 0,.pointer none] 35):=⟨_,rfl⟩
  have r0:W.cell? ⟨w.heap.size+1,0,none⟩=some (.bool false):=by rw[hW];simp
  have r1:W.cell? ⟨w.heap.size+1,1,none⟩=some (.int .u64 0):=by rw[hW];simp
  have r2:W.cell? ⟨w.heap.size+1,2,none⟩=some (.int .u64 0):=by rw[hW];simp
  have r3:W.cell? ⟨w.heap.size+1,3,none⟩=some (.pointer none):=by rw[hW];simp
  have fz:∀ j,W.frozen? ⟨w.heap.size+1,j,none⟩=false:=fun j=>by rw[hW];simp
  have hB:But [] w W:=by rw[hW];exact ((But.refl _ _).alloc _).alloc _
  rw[← hW]
  clear hW
  obtain⟨gr,hgr⟩:∃ gr,gr=w.heap.size+1:=⟨_,rfl⟩
  rw[← hgr] at r0 r1 r2 r3 fz
  rw[← hgr]
  have HGR:Hid (w.heap.size≤gr):=by show _≤_;omega
  clear hgr
  have grl:gr<W.heap.size:=lt_of_cell r0
  refine (za OF _).mono ?_
  rintro e w1 ⟨rfl,hb1⟩
  have u0:=hb1.zb r0 (by simp)
  have u1:=hb1.zb r1 (by simp)
  have u2:=hb1.zb r2 (by simp)
  have u3:=hb1.zb r3 (by simp)
  have uf:∀ j,w1.frozen? ⟨gr,j,none⟩=false:=fun j=>(hb1.frozen (p:=⟨gr,j,none⟩) grl (by simp)).trans (fz j)
  have HB1:Hid (But [] w w1):=hB.trans' hb1
  have gl1:gr<w1.heap.size:=lt_of_cell u0
  clear hb1 hB r0 r1 r2 r3 fz grl
  go_wp2
  have hBf:=(((((za HB1).setCell (p:=⟨gr,0,none⟩) (.inr (za HGR)) (.bool r)).setCell (p:=⟨gr,1,none⟩) (.inr (za HGR)) (.int .u64 p)).setCell (p:=⟨gr,2,none⟩) (.inr (za HGR)) (.int .u64 q)).setCell (p:=⟨gr,3,none⟩) (.inr (za HGR)) (.pointer none)).alloc (.cells #[.bool r,.int .u64 p,.int .u64 q,.pointer none] 35)
  exact bodyPost_ret (v:=.agg #[.bool r,.int .u64 p,.int .u64 q,.pointer none]) (by simp[results,results9,go_sem,u0,u1,u2,u3,gl1]) rfl ⟨rfl,hBf⟩
theorem ax (n:Int):((n:Int):Rat).num=n∧((n:Int):Rat).den=1:=⟨by simp,by simp⟩
theorem zjq (n:Int) (h:n.natAbs < 18446744073709551616):Len ((n:Int):Rat) 1:=by
 obtain⟨h1,h2⟩:=ax n
 exact mi (m:=1) (n:=1) (by rw[h1,Nat.pow_one];exact h) (by rw[h2];decide) 1 (Nat.le_refl _) (Nat.le_refl _)
theorem zfp (x:Int) (h1:-9223372036854775808≤x) (h2:x<9223372036854775808) :
  ∃ (r:Bool) (p:Int),(∀ W,zi W (.agg #[.bool r,.int .u64 p,.int .u64 0,.pointer none]) ((x:Int):Rat))∧∀ W,Calls prog 58 #[.int .i64 x] W fun e w'=>e=.returned (.agg #[.bool r,.int .u64 p,.int .u64 0,.pointer none])∧But [] W w':=by
 obtain⟨e1,e2⟩:=ax x
 refine⟨decide (x<0),((x.natAbs:Nat):Int),fun W=>.inl ⟨by rw[e1];omega,by rw[e2];decide,by rw[e1,e2];rfl⟩,fun W=>?_⟩
 have h:=zom x h1 h2 W
 rw[show (((1:Nat):Int)-1)=0 from rfl] at h
 exact h
theorem zwk (x:Rat):x*((x.den:Int):Rat)=((x.num:Int):Rat):=by
 obtain⟨i1,i2⟩:=ax (x.den:Int)
 obtain⟨j1,j2⟩:=ax x.num
 have h:=zho x ((x.den:Int):Rat)
 rw[i1,i2,Nat.mul_one] at h
 have hd:=den_pos x
 obtain⟨e1,e2⟩:=dz x.num 1 (by omega) (by simp) (x*((x.den:Int):Rat)) (by
  refine Int.eq_of_mul_eq_mul_right (show (x.den:Int)≠0 by omega) ?_
  grind)
 exact Rat.ext (by rw[e1,j1]) (by rw[e2,j2])
theorem ofP (f:Rat) (x y:Int) (_hy:y≠0) (h:f.num*y=x*f.den):f*((y:Int):Rat)=((x:Int):Rat):=by
 have h2:((f.num*y:Int):Rat)=((x*(f.den:Int):Int):Rat):=by rw[h]
 rw[Rat.intCast_mul,Rat.intCast_mul] at h2
 have hd:((f.den:Int):Rat)≠0:=fun e=>by
  have:=Rat.intCast_eq_zero_iff.1 e
  have:=f.den_pos
  omega
 have hf:f*((f.den:Int):Rat)=((f.num:Int):Rat):=zwk f
 rw[← hf] at h2
 have h3:((f.den:Int):Rat)*(f*((y:Int):Rat))=((f.den:Int):Rat)*((x:Int):Rat):=by grind
 have:=congrArg (fun t=>((f.den:Int):Rat)⁻¹*t) h3
 simp only[← Rat.mul_assoc,Rat.inv_mul_cancel _ hd,Rat.one_mul] at this
 exact this
theorem zmr (x y:Int) (hx1:-9223372036854775808≤x) (hx2:x<9223372036854775808) (hy1:-9223372036854775808≤y) (hy2:y<9223372036854775808) (hy0:y≠0) :
  ∃ (f:Rat) (r:Bool) (p q:Int),Len f 1∧f*((y:Int):Rat)=((x:Int):Rat)∧(∀ W,zi W (.agg #[.bool r,.int .u64 p,.int .u64 q,.pointer none]) f)∧∀ W,Calls prog 56 #[.int .i64 x,.int .i64 y] W fun e w'=>e=.returned (.agg #[.bool r,.int .u64 p,.int .u64 q,.pointer none])∧But [] W w':=by
 obtain⟨f,r,p,q,l,e,F,C⟩:=zhk x y hx1 hx2 hy1 hy2 hy0
 refine⟨f,r,p,q,l,ofP f x y hy0 e,F,fun W=>?_⟩
 have HC:=hide C
 clear C F e l
 go_enter func56,ntmps56
 go_wp2_with fail
 refine (za HC _).mono ?_
 rintro e w1 ⟨rfl,hb1⟩
 have B1:=hide (((But.refl [] W).alloc (.cells #[.bool false,.int .u64 0,.int .u64 0,.pointer none] 35)).trans' hb1)
 have c0:w1.cell? ⟨W.heap.size,0,none⟩=some (.bool false):=hb1.zb (by simp) (by simp)
 have c1:w1.cell? ⟨W.heap.size,1,none⟩=some (.int .u64 0):=hb1.zb (by simp) (by simp)
 have c2:w1.cell? ⟨W.heap.size,2,none⟩=some (.int .u64 0):=hb1.zb (by simp) (by simp)
 have c3:w1.cell? ⟨W.heap.size,3,none⟩=some (.pointer none):=hb1.zb (by simp) (by simp)
 have fz:∀ j,w1.frozen? ⟨W.heap.size,j,none⟩=false:=fun j=>(hb1.frozen (p:=⟨W.heap.size,j,none⟩) (by simp) (by simp)).trans (by simp)
 have lg:W.heap.size<w1.heap.size:=lt_of_cell c0
 have hge:W.heap.size≤W.heap.size:=Nat.le_refl _
 generalize hgg:W.heap.size=g at c0 c1 c2 c3 fz lg hge ⊢
 have HG:=hide hgg
 clear hb1 HC hgg hge
 go_wp2
 have hS:But [g] w1 ((((w1.setCell ⟨g,0,none⟩ (.bool r)).setCell ⟨g,1,none⟩ (.int .u64 p)).setCell ⟨g,2,none⟩ (.int .u64 q)).setCell ⟨g,3,none⟩ (.pointer none)):=(((((But.refl [g] w1).setCell (.inl (by simp)) _).setCell (.inl (by simp)) _).setCell (.inl (by simp)) _).setCell (.inl (by simp)) _)
 have hF:=((za B1).trans hS (fun x hx=>by simp at hx;subst hx;exact .inr (Nat.le_of_eq (za HG)))).alloc (.cells #[.bool r,.int .u64 p,.int .u64 q,.pointer none] 35)
 exact bodyPost_ret (v:=.agg #[.bool r,.int .u64 p,.int .u64 q,.pointer none]) (by simp[results,results56,go_sem,c0,c1,c2,c3,lg]) rfl ⟨rfl,hF⟩
theorem qas (x:Rat):x*((x.den:Int):Rat)=((x.num:Int):Rat):=by
 obtain⟨i1,i2⟩:=ax (x.den:Int)
 obtain⟨j1,j2⟩:=ax x.num
 have h:=zho x ((x.den:Int):Rat)
 rw[i1,i2,Nat.mul_one] at h
 have hd:=den_pos x
 obtain⟨e1,e2⟩:=dz x.num 1 (by omega) (by simp) (x*((x.den:Int):Rat)) (by
  refine Int.eq_of_mul_eq_mul_right (show (x.den:Int)≠0 by omega) ?_
  grind)
 exact Rat.ext (by rw[e1,j1]) (by rw[e2,j2])
theorem int_ne (z:Int) (h:z≠0):((z:Int):Rat)≠0:=fun e=>h (by
 have:=congrArg Rat.num e
 rwa [(ax z).1] at this)
def qf (q:Int × Int):Rat:=((q.1:Int):Rat)/(((if q.2=0 then 1 else q.2):Int):Rat)
theorem qto (f:Rat) (q:Int × Int) (h:f.num*(if q.2=0 then 1 else q.2)=q.1*f.den):f=qf q:=by
 unfold qf
 have hy:(if q.2=0 then (1:Int) else q.2)≠0:=by split <;> omega
 generalize (if q.2=0 then (1:Int) else q.2)=y at *
 have h1:=qas f
 have h2:((f.num*y:Int):Rat)=((q.1*(f.den:Int):Int):Rat):=by rw[h]
 rw[Rat.intCast_mul,Rat.intCast_mul] at h2
 have hd:=int_ne (f.den:Int) (by have:=den_pos f;omega)
 have hy':=int_ne y hy
 generalize ((y:Int):Rat)=Y at *
 generalize ((f.den:Int):Rat)=D at *
 generalize ((f.num:Int):Rat)=M at *
 generalize ((q.1:Int):Rat)=X at *
 rw[← h1] at h2
 grind
def Fits (q:Int × Int):Prop:=-9223372036854775808≤q.1∧q.1<9223372036854775808∧-9223372036854775808≤q.2∧q.2<9223372036854775808
theorem zou (q:Int × Int) (h:Fits q):∃ (r:Bool) (x y:Int),Len (qf q) 1∧(∀ W,zi W (.agg #[.bool r,.int .u64 x,.int .u64 y,.pointer none]) (qf q))∧∀ W,Calls prog 9 #[.agg #[.int .i64 q.1,.int .i64 q.2]] W fun e w'=>e=.returned (.agg #[.bool r,.int .u64 x,.int .u64 y,.pointer none])∧But [] W w':=by
 obtain⟨f,r,x,y,h1,h2,h3,h4⟩:=zve q.1 q.2 h.1 h.2.1 h.2.2.1 h.2.2.2
 have e:=qto f q h2
 subst e
 exact⟨r,x,y,h1,h3,h4⟩
set_option linter.unusedVariables false
theorem ownsRow_form {w:World} {base:Nat} {e:TypeId} {size:Nat} {v:Value} {n:Nat} {xs:List Value} (h:w.ownsRow base e size v n xs):∃ a c,v=.slice a n c:=by
 rcases h.2 with ⟨rfl,h0⟩|⟨g,cap,cur,rfl,-⟩
 ·exact⟨none,0,by rw[h0]⟩
 ·exact⟨_,_,rfl⟩
theorem zrf {w0 w w':World} {base:Nat} {e:TypeId} {size:Nat} {v:Value} {n:Nat} {xs:List Value} (h:But [] w0 w) (ho:w.ownsRow base e size v n xs) (hb:w0.heap.size≤base) (hg:w.grownBy w' v.ownBlock):But [] w0 w' :=
 ⟨hg.os.trans h.os,hg.tape.trans h.tape,hg.output.trans h.output,Nat.le_trans h.size hg.size,fun k hk _=>by
  rw[hg.block k (Nat.lt_of_lt_of_le hk h.size) (fun e=>by have:=(ho.lt k e.symm).1;omega)]
  exact h.block k hk (by simp)⟩
theorem zhz {w w':World} {base:Nat} {e:TypeId} {size:Nat} {v:Value} {n:Nat} {xs:List Value} (h:w.ownsRow base e size v n xs) (hb:But [] w w'):w'.ownsRow base e size v n xs :=
 h.kept (row:=none) ⟨hb.os,hb.tape,hb.output,hb.size,fun k hk _=>hb.block k hk (by simp)⟩ (by
  by_cases h0:v.ownBlock=none
  ·exact .inl h0
  ·exact .inr h0)
end Go.Proofs.YtcgecpoedojhjaaGreatDoor
