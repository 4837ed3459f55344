/- A pair's fraction, as the Go text of pac -/
import Derived.Test.YtffghofheeleeaaGreatDoorKC1
import Derived.Test.YtffghofheeleeaaGreatDoorKF7
import Derived.Test.YtffghofheeleeaaGreatDoorKT1qS
namespace Go.Proofs.YtffghofheeleeaaGreatDoor
open Go.Proofs.Tryz
open Go.RowKit
set_option maxHeartbeats 16000000
set_option maxRecDepth 100000
theorem qdc (s:Bool) (p q:Nat) (hq:0<q) (hc:Nat.Coprime p q):∃ f:Rat,f.num=sgn s p∧f.den=q :=
 ⟨⟨sgn s p,q,by omega,by rw[xk];exact hc⟩,rfl,rfl⟩
theorem zwx (x y:Nat) (hy:0<y):Nat.Coprime (x/Nat.gcd x y) (y/Nat.gcd x y):=Nat.coprime_div_gcd_div_gcd (Nat.gcd_pos_of_pos_right _ hy)
theorem zhb {f:Rat} {m n:Nat} (h1:f.num.natAbs < 18446744073709551616^m) (h2:f.den < 18446744073709551616^n) (k:Nat) (hm:m≤k) (hn:n≤k):Len f k :=
 ⟨Nat.le_trans (aj (by omega) _ _ h1) hm,Nat.le_trans (aj (by omega) _ _ h2) hn⟩
theorem Len.mono {f:Rat} {m n:Nat} (h:Len f m) (hn:m≤n):Len f n:=⟨Nat.le_trans h.1 hn,Nat.le_trans h.2 hn⟩
theorem Len.lt {f:Rat} {m:Nat} (h:Len f m):f.num.natAbs < 18446744073709551616^m∧f.den < 18446744073709551616^m:=⟨am (by omega) _ _ h.1,am (by omega) _ _ h.2⟩
theorem jd {f g:Rat} {m n:Nat} (h1:Len f m) (h2:Len g n) (k:Nat) (hk:m+n≤k):Len (f*g) k:=by
 obtain⟨a1,a2⟩:=h1.lt
 obtain⟨c1,c2⟩:=h2.lt
 obtain⟨e1,e2⟩:=zpn f g _ _ rfl rfl
 refine zhb (m:=m+n) (n:=m+n) ?_ ?_ k hk hk
 ·rw[e1,xk,Nat.pow_add]
  exact Nat.mul_lt_mul'' (Nat.lt_of_le_of_lt (Nat.div_le_self _ _) a1) (Nat.lt_of_le_of_lt (Nat.div_le_self _ _) c1)
 ·rw[e2,Nat.pow_add]
  exact Nat.mul_lt_mul'' (Nat.lt_of_le_of_lt (Nat.div_le_self _ _) a2) (Nat.lt_of_le_of_lt (Nat.div_le_self _ _) c2)
theorem mi {f g:Rat} {m n:Nat} (h1:Len f m) (h2:Len g n) (k:Nat) (hk:m+n+1≤k):Len (f+g) k:=by
 obtain⟨a1,a2⟩:=h1.lt
 obtain⟨c1,c2⟩:=h2.lt
 obtain⟨M,s,hM⟩:∃ (M:Nat) (s:Bool),f.num*(g.den/Nat.gcd f.den g.den:Nat)+g.num*(f.den/Nat.gcd f.den g.den:Nat)=sgn s M:=by
  generalize f.num*(g.den/Nat.gcd f.den g.den:Nat)+g.num*(f.den/Nat.gcd f.den g.den:Nat)=z
  by_cases hz:z<0
  ·exact⟨z.natAbs,true,by simp[sgn];omega⟩
  ·exact⟨z.natAbs,false,by simp[sgn];omega⟩
 obtain⟨e1,e2⟩:=zps f g s M _ _ rfl rfl hM
 have hMl:M < 18446744073709551616^(m+n+1):=by
  have h3:M≤f.num.natAbs*(g.den/Nat.gcd f.den g.den)+g.num.natAbs*(f.den/Nat.gcd f.den g.den):=by
   rw[← xk s M,← hM]
   refine Nat.le_trans (Int.natAbs_add_le _ _) ?_
   rw[Int.natAbs_mul,Int.natAbs_mul,Int.natAbs_natCast,Int.natAbs_natCast]
   exact Nat.le_refl _
  have h4:f.num.natAbs*(g.den/Nat.gcd f.den g.den) < 18446744073709551616^m * 18446744073709551616^n:=Nat.mul_lt_mul'' a1 (Nat.lt_of_le_of_lt (Nat.div_le_self _ _) c2)
  have h5:g.num.natAbs*(f.den/Nat.gcd f.den g.den) < 18446744073709551616^n * 18446744073709551616^m:=Nat.mul_lt_mul'' c1 (Nat.lt_of_le_of_lt (Nat.div_le_self _ _) a2)
  rw[Nat.mul_comm (18446744073709551616^n)] at h5
  rw[Nat.pow_succ,Nat.pow_add]
  generalize 18446744073709551616^m * 18446744073709551616^n=P at *
  omega
 refine zhb (m:=m+n+1) (n:=m+n) ?_ ?_ k hk (by omega)
 ·rw[e1,xk];exact Nat.lt_of_le_of_lt (Nat.div_le_self _ _) hMl
 ·rw[e2,Nat.pow_add]
  exact Nat.mul_lt_mul'' (Nat.lt_of_le_of_lt (Nat.div_le_self _ _) a2) (Nat.lt_of_le_of_lt (Nat.div_le_self _ _) c2)
theorem zwo {f:Rat} {m:Nat} (h:Len f m):Len (-f) m:=by
 unfold Len
 rw[Rat.neg_num,Rat.neg_den,Int.natAbs_neg]
 exact h
theorem fe {f g:Rat} {m n:Nat} (h1:Len f m) (h2:Len g n) (k:Nat) (hk:m+n+1≤k):Len (f-g) k:=by
 rw[Rat.sub_eq_add_neg];exact mi h1 (zwo h2) k hk
theorem zwq {f:Rat} {m:Nat} (h:Len f m) (h0:f.num≠0):Len f⁻¹ m:=by
 obtain⟨i1,i2,-⟩:=zgn f h0
 unfold Len
 rw[i1,i2]
 exact⟨h.2,h.1⟩
theorem ru {f g:Rat} {m n:Nat} (h1:Len f m) (h2:Len g n) (h0:g.num≠0) (k:Nat) (hk:m+n≤k):Len (f/g) k:=by
 rw[Rat.div_def];exact jd h1 (zwq h2 h0) k hk
theorem qdg (x y:Int) (p q k:Nat) (hx:x.natAbs=p*k) (hy:y.natAbs=q*k):sgn (decide (x<0) != decide (y<0)) p*y=x*q:=by
 have ex:x=sgn (decide (x<0)) (p*k):=by
  by_cases h:x<0
  ·simp[sgn,h];omega
  ·simp[sgn,h];omega
 have ey:y=sgn (decide (y<0)) (q*k):=by
  by_cases h:y<0
  ·simp[sgn,h];omega
  ·simp[sgn,h];omega
 generalize decide (x<0)=a at *
 generalize decide (y<0)=b at *
 rw[ex,ey]
 cases a <;> cases b <;> simp[sgn,Int.natCast_mul] <;> grind
theorem zgp (x y:Int) (hx1:-9223372036854775808≤x) (hx2:x<9223372036854775808) (hy1:-9223372036854775808≤y) (hy2:y<9223372036854775808) (hy0:y≠0) :
  ∃ (f:Rat) (r:Bool) (p q:Int),Len f 1∧f.num*y=x*f.den∧(∀ W,aq W (.agg #[.bool r,.int .u64 p,.int .u64 q,.pointer none]) f)∧∀ W,Calls prog 35 #[.int .i64 x,.int .i64 y] W fun e w'=>e=.returned (.tuple #[.agg #[.bool r,.int .u64 p,.int .u64 q,.pointer none],.nilIface])∧But [] W w':=by
 have hyp:0<y.natAbs:=by omega
 have hg:0<Nat.gcd x.natAbs y.natAbs:=Nat.gcd_pos_of_pos_right _ hyp
 have hd1:=Nat.div_mul_cancel (Nat.gcd_dvd_left x.natAbs y.natAbs)
 have hd2:=Nat.div_mul_cancel (Nat.gcd_dvd_right x.natAbs y.natAbs)
 have hq0:0<y.natAbs/Nat.gcd x.natAbs y.natAbs:=Nat.div_pos (Nat.le_of_dvd hyp (Nat.gcd_dvd_right _ _)) hg
 have hpB:x.natAbs/Nat.gcd x.natAbs y.natAbs < 18446744073709551616:=Nat.lt_of_le_of_lt (Nat.div_le_self _ _) (by omega)
 have hqB:y.natAbs/Nat.gcd x.natAbs y.natAbs < 18446744073709551616:=Nat.lt_of_le_of_lt (Nat.div_le_self _ _) (by omega)
 obtain⟨f,hn,hd⟩:=qdc (decide (x<0) != decide (y<0)) _ _ hq0 (zwx x.natAbs y.natAbs hyp)
 have habs:f.num.natAbs=x.natAbs/Nat.gcd x.natAbs y.natAbs:=by rw[hn,xk]
 refine⟨f,decide (f.num<0),(f.num.natAbs:Int),(f.den:Int)-1,?_,?_,fun W=>.inl ⟨by rw[habs];exact hpB,by rw[hd];exact hqB,rfl⟩,fun W=>?_⟩
 ·exact zhb (m:=1) (n:=1) (by rw[habs,Nat.pow_one];exact hpB) (by rw[hd,Nat.pow_one];exact hqB) 1 (Nat.le_refl _) (Nat.le_refl _)
 ·rw[hn,hd]
  exact qdg x y _ _ _ hd1.symm hd2.symm
 ·rw[habs,hd]
  exact zsc x y hx1 hx2 hy1 hy2 hy0 W _ _ _ (by show _=_;rw[hn,zgv]) rfl rfl
theorem zet (x y:Int) (hx1:-9223372036854775808≤x) (hx2:x<9223372036854775808) (hy1:-9223372036854775808≤y) (hy2:y<9223372036854775808) :
  ∃ (f:Rat) (r:Bool) (p q:Int),Len f 1∧f.num*(if y=0 then 1 else y)=x*f.den∧(∀ W,aq W (.agg #[.bool r,.int .u64 p,.int .u64 q,.pointer none]) f)∧∀ W,Calls prog 7 #[.agg #[.int .i64 x,.int .i64 y]] W fun e w'=>e=.returned (.agg #[.bool r,.int .u64 p,.int .u64 q,.pointer none])∧But [] W w':=by
 by_cases hy0:y=0
 ·subst hy0
  obtain⟨f,r,p,q,h1,h2,h3,h4⟩:=zgp x 1 hx1 hx2 (by omega) (by omega) (by omega)
  refine⟨f,r,p,q,h1,by rw[if_pos rfl];exact h2,h3,fun w=>?_⟩
  have OF:=af h4
  clear h1 h2 h3 h4
  go_enter func7,ntmps7
  go_wp2_with fail
  obtain⟨W,hW⟩:∃ W,W=(w.alloc (.cells #[.int .i64 x,.int .i64 1] 23)).alloc (.cells #[.bool false,.int .u64 0,.int .u64 0,.pointer none] 27):=⟨_,rfl⟩
  have r0:W.cell? ⟨w.heap.size+1,0,none⟩=some (.bool false):=by rw[hW];simp
  have r1:W.cell? ⟨w.heap.size+1,1,none⟩=some (.int .u64 0):=by rw[hW];simp
  have r2:W.cell? ⟨w.heap.size+1,2,none⟩=some (.int .u64 0):=by rw[hW];simp
  have r3:W.cell? ⟨w.heap.size+1,3,none⟩=some (.pointer none):=by rw[hW];simp
  have fz:∀ j,W.frozen? ⟨w.heap.size+1,j,none⟩=false:=fun j=>by rw[hW];simp
  have hB:But [] w W:=by rw[hW];exact ((But.refl _ _).alloc _).alloc _
  rw[← hW]
  clear hW
  obtain⟨gr,hgr⟩:∃ gr,gr=w.heap.size+1:=⟨_,rfl⟩
  rw[← hgr] at r0 r1 r2 r3 fz
  rw[← hgr]
  have HGR:Hid (w.heap.size≤gr):=by show _≤_;omega
  clear hgr
  have grl:gr<W.heap.size:=ai r0
  refine (ae OF _).mono ?_
  rintro e w1 ⟨rfl,hb1⟩
  have u0:=hb1.ag r0 (by simp)
  have u1:=hb1.ag r1 (by simp)
  have u2:=hb1.ag r2 (by simp)
  have u3:=hb1.ag r3 (by simp)
  have uf:∀ j,w1.frozen? ⟨gr,j,none⟩=false:=fun j=>(hb1.frozen (p:=⟨gr,j,none⟩) grl (by simp)).trans (fz j)
  have HB1:Hid (But [] w w1):=hB.trans' hb1
  have gl1:gr<w1.heap.size:=ai u0
  clear hb1 hB r0 r1 r2 r3 fz grl
  go_wp2
  have hBf:=(((((ae HB1).setCell (p:=⟨gr,0,none⟩) (.inr (ae HGR)) (.bool r)).setCell (p:=⟨gr,1,none⟩) (.inr (ae HGR)) (.int .u64 p)).setCell (p:=⟨gr,2,none⟩) (.inr (ae HGR)) (.int .u64 q)).setCell (p:=⟨gr,3,none⟩) (.inr (ae HGR)) (.pointer none)).alloc (.cells #[.bool r,.int .u64 p,.int .u64 q,.pointer none] 27)
  exact bodyPost_ret (v:=.agg #[.bool r,.int .u64 p,.int .u64 q,.pointer none]) (by simp[results,results7,go_sem,u0,u1,u2,u3,gl1]) rfl ⟨rfl,hBf⟩
 ·obtain⟨f,r,p,q,h1,h2,h3,h4⟩:=zgp x y hx1 hx2 hy1 hy2 hy0
  refine⟨f,r,p,q,h1,by rw[if_neg hy0];exact h2,h3,fun w=>?_⟩
  have n0:(y==0)=false:=by simp[hy0]
  have OF:=af h4
  clear h1 h2 h3 h4
  go_enter func7,ntmps7
  go_wp2_with fail
  obtain⟨W,hW⟩:∃ W,W=(w.alloc (.cells #[.int .i64 x,.int .i64 y] 23)).alloc (.cells #[.bool false,.int .u64 0,.int .u64 0,.pointer none] 27):=⟨_,rfl⟩
  have r0:W.cell? ⟨w.heap.size+1,0,none⟩=some (.bool false):=by rw[hW];simp
  have r1:W.cell? ⟨w.heap.size+1,1,none⟩=some (.int .u64 0):=by rw[hW];simp
  have r2:W.cell? ⟨w.heap.size+1,2,none⟩=some (.int .u64 0):=by rw[hW];simp
  have r3:W.cell? ⟨w.heap.size+1,3,none⟩=some (.pointer none):=by rw[hW];simp
  have fz:∀ j,W.frozen? ⟨w.heap.size+1,j,none⟩=false:=fun j=>by rw[hW];simp
  have hB:But [] w W:=by rw[hW];exact ((But.refl _ _).alloc _).alloc _
  rw[← hW]
  clear hW
  obtain⟨gr,hgr⟩:∃ gr,gr=w.heap.size+1:=⟨_,rfl⟩
  rw[← hgr] at r0 r1 r2 r3 fz
  rw[← hgr]
  have HGR:Hid (w.heap.size≤gr):=by show _≤_;omega
  clear hgr
  have grl:gr<W.heap.size:=ai r0
  refine (ae OF _).mono ?_
  rintro e w1 ⟨rfl,hb1⟩
  have u0:=hb1.ag r0 (by simp)
  have u1:=hb1.ag r1 (by simp)
  have u2:=hb1.ag r2 (by simp)
  have u3:=hb1.ag r3 (by simp)
  have uf:∀ j,w1.frozen? ⟨gr,j,none⟩=false:=fun j=>(hb1.frozen (p:=⟨gr,j,none⟩) grl (by simp)).trans (fz j)
  have HB1:Hid (But [] w w1):=hB.trans' hb1
  have gl1:gr<w1.heap.size:=ai u0
  clear hb1 hB r0 r1 r2 r3 fz grl
  go_wp2
  have hBf:=(((((ae HB1).setCell (p:=⟨gr,0,none⟩) (.inr (ae HGR)) (.bool r)).setCell (p:=⟨gr,1,none⟩) (.inr (ae HGR)) (.int .u64 p)).setCell (p:=⟨gr,2,none⟩) (.inr (ae HGR)) (.int .u64 q)).setCell (p:=⟨gr,3,none⟩) (.inr (ae HGR)) (.pointer none)).alloc (.cells #[.bool r,.int .u64 p,.int .u64 q,.pointer none] 27)
  exact bodyPost_ret (v:=.agg #[.bool r,.int .u64 p,.int .u64 q,.pointer none]) (by simp[results,results7,go_sem,u0,u1,u2,u3,gl1]) rfl ⟨rfl,hBf⟩
theorem bp (n:Int):((n:Int):Rat).num=n∧((n:Int):Rat).den=1:=⟨by simp,by simp⟩
theorem kr (n:Int) (h:n.natAbs < 18446744073709551616):Len ((n:Int):Rat) 1:=by
 obtain⟨h1,h2⟩:=bp n
 exact zhb (m:=1) (n:=1) (by rw[h1,Nat.pow_one];exact h) (by rw[h2];decide) 1 (Nat.le_refl _) (Nat.le_refl _)
theorem zel (x:Int) (h1:-9223372036854775808≤x) (h2:x<9223372036854775808) :
  ∃ (r:Bool) (p:Int),(∀ W,aq W (.agg #[.bool r,.int .u64 p,.int .u64 0,.pointer none]) ((x:Int):Rat))∧∀ W,Calls prog 71 #[.int .i64 x] W fun e w'=>e=.returned (.agg #[.bool r,.int .u64 p,.int .u64 0,.pointer none])∧But [] W w':=by
 obtain⟨e1,e2⟩:=bp x
 refine⟨decide (x<0),((x.natAbs:Nat):Int),fun W=>.inl ⟨by rw[e1];omega,by rw[e2];decide,by rw[e1,e2];rfl⟩,fun W=>?_⟩
 have h:=zuf x h1 h2 W
 rw[show (((1:Nat):Int)-1)=0 from rfl] at h
 exact h
theorem znq (x:Rat):x*((x.den:Int):Rat)=((x.num:Int):Rat):=by
 obtain⟨i1,i2⟩:=bp (x.den:Int)
 obtain⟨j1,j2⟩:=bp x.num
 have h:=zek x ((x.den:Int):Rat)
 rw[i1,i2,Nat.mul_one] at h
 have hd:=den_pos x
 obtain⟨e1,e2⟩:=zbu x.num 1 (by omega) (by simp) (x*((x.den:Int):Rat)) (by
  refine Int.eq_of_mul_eq_mul_right (show (x.den:Int)≠0 by omega) ?_
  grind)
 exact Rat.ext (by rw[e1,j1]) (by rw[e2,j2])
theorem int_ne (z:Int) (h:z≠0):((z:Int):Rat)≠0:=fun e=>h (by
 have:=congrArg Rat.num e
 rwa [(bp z).1] at this)
def qf (q:Int × Int):Rat:=((q.1:Int):Rat)/(((if q.2=0 then 1 else q.2):Int):Rat)
theorem zzd (f:Rat) (q:Int × Int) (h:f.num*(if q.2=0 then 1 else q.2)=q.1*f.den):f=qf q:=by
 unfold qf
 have hy:(if q.2=0 then (1:Int) else q.2)≠0:=by split <;> omega
 generalize (if q.2=0 then (1:Int) else q.2)=y at *
 have h1:=znq f
 have h2:((f.num*y:Int):Rat)=((q.1*(f.den:Int):Int):Rat):=by rw[h]
 rw[Rat.intCast_mul,Rat.intCast_mul] at h2
 have hd:=int_ne (f.den:Int) (by have:=den_pos f;omega)
 have hy':=int_ne y hy
 generalize ((y:Int):Rat)=Y at *
 generalize ((f.den:Int):Rat)=D at *
 generalize ((f.num:Int):Rat)=M at *
 generalize ((q.1:Int):Rat)=X at *
 rw[← h1] at h2
 grind
def Fits (q:Int × Int):Prop:=-9223372036854775808≤q.1∧q.1<9223372036854775808∧-9223372036854775808≤q.2∧q.2<9223372036854775808
theorem zcl (q:Int × Int) (h:Fits q):∃ (r:Bool) (x y:Int),Len (qf q) 1∧(∀ W,aq W (.agg #[.bool r,.int .u64 x,.int .u64 y,.pointer none]) (qf q))∧∀ W,Calls prog 7 #[.agg #[.int .i64 q.1,.int .i64 q.2]] W fun e w'=>e=.returned (.agg #[.bool r,.int .u64 x,.int .u64 y,.pointer none])∧But [] W w':=by
 obtain⟨f,r,x,y,h1,h2,h3,h4⟩:=zet q.1 q.2 h.1 h.2.1 h.2.2.1 h.2.2.2
 have e:=zzd f q h2
 subst e
 exact⟨r,x,y,h1,h3,h4⟩
def zee (w:World) (v:Value) (qs:List (Int × Int)):Prop:=∃ a cap,v=.slice a qs.length cap∧qs.length≤cap∧∀ i q,qs[i]? = some q→∃ b off,a=some ⟨b,off,none⟩∧w.cell? ⟨b,off+i*2,none⟩=some (.int .i64 q.1)∧w.cell? ⟨b,off+i*2+1,none⟩=some (.int .i64 q.2)
theorem zee.but {w w':World} {v:Value} {qs:List (Int × Int)} (h:zee w v qs) (hb:But [] w w'):zee w' v qs:=by
 obtain⟨a,cap,e,hc,h⟩:=h
 refine⟨a,cap,e,hc,fun i q hq=>?_⟩
 obtain⟨b,off,e1,h1,h2⟩:=h i q hq
 exact⟨b,off,e1,hb.ag h1 (by simp),hb.ag h2 (by simp)⟩
theorem qbx (w:World) (base:Nat) (v:Value) (k:Nat) (vs:List Value) (hown:w.ownsRow base 27 4 v k (zcm vs)) (g:Nat) (s:Bool) (x y:Int) (p:Option Addr) (c:P4 w g s x y p) (hk:k<1000000) (hb:base≤w.heap.size) :
  ∃ v' w',(Builtin.append_ #[62,62] 62 #[v,.slice (some ⟨g,0,none⟩) 1 1]).run prog w=.ok v' w'∧w'.ownsRow base 27 4 v' (k+1) (zcm (vs++[.agg #[.bool s,.int .u64 x,.int .u64 y,.pointer p]]))∧w.grownBy w' v.ownBlock:=by
 obtain⟨i0,hi,hz0,hz1,hz2⟩:=zuu
 obtain⟨v',w',hr,ho,hg,-⟩:=run_append_own (P:=prog) w base 62 62 27 i0 _ 4 32 underlying62 hi hz0 hz1 hz2 rfl (by decide) v k (zcm vs) hown ⟨g,0,none⟩ 1 1 [.bool s,.int .u64 x,.int .u64 y,.pointer p] rfl (fun j u hj=>by
   have:j=0∨j=1∨j=2∨j=3∨4≤j:=by omega
   obtain⟨c0,c1,c2,c3⟩:=c
   rcases this with rfl|rfl|rfl|rfl | h4
   ·simp at hj;subst hj;exact c0
   ·simp at hj;subst hj;exact c1
   ·simp at hj;subst hj;exact c2
   ·simp at hj;subst hj;exact c3
   ·rw[List.getElem?_eq_none (by simpa using h4)] at hj;simp at hj) (fun u hu=>by
   simp only[List.mem_cons,List.not_mem_nil,or_false] at hu
   rcases hu with rfl|rfl|rfl|rfl <;> rfl) (by unfold maxLen;omega) (by omega) hb
 refine⟨v',w',hr,?_,hg⟩
 rw[ztl]
 exact ho
set_option linter.unusedVariables false
def zn (f:Rat) (w:World) (v:Value):Prop:=∃ u,v=.tuple #[u,.nilIface]∧aq w u f
theorem zn.but {f:Rat} {w w':World} {v:Value} (h:zn f w v) (hb:But [] w w'):zn f w' v:=by
 obtain⟨u,e,hu⟩:=h
 exact⟨u,e,hu.but hb⟩
theorem zke (w:World) (g:Nat) (s:Bool) (x y:Int) (p:Option Addr) (q:Addr):(zy w g s x y p).frozen? q=w.frozen? q:=by
 unfold zy
 simp only[World.frozen?_setCell]
def qh (B:Nat) (w:World) (v:Value):Prop:=∃ b,v=.pointer (some ⟨b,0,none⟩)∧B≤b∧(∃ s x y p,P4 w b s x y p)∧∀ j,w.frozen? ⟨b,j,none⟩=false
theorem qh.but {B:Nat} {w w':World} {v:Value} (h:qh B w v) (hb:But [] w w'):qh B w' v:=by
 obtain⟨b,e,h1,⟨s,x,y,p,h2⟩,h3⟩:=h
 have hl:b<w.heap.size:=ai h2.1
 exact⟨b,e,h1,⟨s,x,y,p,h2.but hb (by simp)⟩,fun j=>(hb.frozen (p:=⟨b,j,none⟩) hl (by simp)).trans (h3 j)⟩
theorem qh.put {B:Nat} {w:World} {v:Value} {g:Nat} {s0:Bool} {x0 y0:Int} {p0:Option Addr} (h:qh B w v) (hg:P4 w g s0 x0 y0 p0) (s':Bool) (x' y':Int) (p':Option Addr):qh B (zy w g s' x' y' p') v:=by
 obtain⟨b,e,h1,⟨s,x,y,p,h2⟩,h3⟩:=h
 refine⟨b,e,h1,?_,fun j=>by rw[zke];exact h3 j⟩
 by_cases eb:b=g
 ·subst eb
  exact⟨s',x',y',p',jl w b s' x' y' p' hg⟩
 ·exact⟨s,x,y,p,h2.but (ay w g s' x' y' p') (by simpa using eb)⟩
theorem zn.put {f:Rat} {w:World} {v:Value} {g:Nat} {s0:Bool} {x0 y0:Int} {p0:Option Addr} (h:zn f w v) (hg:P4 w g s0 x0 y0 p0) (s':Bool) (x' y':Int) (p':Option Addr):zn f (zy w g s' x' y' p') v:=by
 obtain⟨u,e,hu⟩:=h
 exact⟨u,e,hu.over hg.1 (ay w g s' x' y' p')⟩
def zfe (B:Nat) (f:Rat) (w:World) (v:Value):Prop:=∃ b s x y p,v=.pointer (some ⟨b,0,none⟩)∧B≤b∧P4 w b s x y p∧aq w (.agg #[.bool s,.int .u64 x,.int .u64 y,.pointer p]) f
theorem zfe.but {B:Nat} {f:Rat} {w w':World} {v:Value} (h:zfe B f w v) (hb:But [] w w'):zfe B f w' v:=by
 obtain⟨b,s,x,y,p,e,h1,h2,h3⟩:=h
 exact⟨b,s,x,y,p,e,h1,h2.but hb (by simp),h3.but hb⟩
theorem zqm (a:Act) (w:World) (d t:Nat) (u:TypeId) (ps:String) (ed:Array Edge) (gd:Option (Nat × Bool)) (N:Value) (h:a.eval (.tmp t)=N) :
  (execOp a.eval { dst:=some d,op:=Op.assign (.tmp t),type:=u,pos:=ps,after:=ed,guard:=gd }).run prog w=.ok (.value N) w:=by
 unfold execOp
 simp only[h]
 go_simp
theorem uh (a:Act) (w:World) (d:Nat) (u:TypeId) (ps:String) (ed:Array Edge) (gd:Option (Nat × Bool)) :
  (execOp a.eval { dst:=some d,op:=Op.alloc 27,type:=u,pos:=ps,after:=ed,guard:=gd }).run prog w=.ok (.value (.pointer (some ⟨w.heap.size,0,none⟩))) (w.alloc (.cells #[.bool false,.int .u64 0,.int .u64 0,.pointer none] 27)):=by
 unfold execOp
 go_simp
theorem zyj (a:Act) (w:World) (t1 t2:Nat) (u:TypeId) (ps:String) (ed:Array Edge) (g o:Nat) (s:Bool) (x y:Int) (p:Option Addr) {s':Bool} {x' y':Int} {p':Option Addr} (h1:a.eval (.tmp t1)=.pointer (some ⟨g,o,none⟩)) (h2:a.eval (.tmp t2)=.agg #[.bool s,.int .u64 x,.int .u64 y,.pointer p]) (hc:P4o w g o s' x' y' p') (fz:∀ j,w.frozen? ⟨g,j,none⟩=false) :
  (execOp a.eval { dst:=none,op:=Op.store 27 (.tmp t1) (.tmp t2),type:=u,pos:=ps,after:=ed,guard:=none }).run prog w=.ok .skip (w.setCells g o [.bool s,.int .u64 x,.int .u64 y,.pointer p]):=by
 obtain⟨c0,c1,c2,c3⟩:=hc
 unfold execOp
 simp only[h1,h2]
 go_simp
 rfl
theorem zga (a:Act) (w:World) (d t0 t1:Nat) (u:TypeId) (ps:String) (ed:Array Edge) (gd:Option (Nat × Bool)) (z0 z1:Value) (h0:a.eval (.tmp t0)=z0) (h1:a.eval (.tmp t1)=z1) :
  (execOp a.eval { dst:=some d,op:=Op.call { callee:=Callee.value (Operand.func 31),args:=#[Operand.tmp t0,Operand.tmp t1],argTypes:=#[27,27] },type:=u,pos:=ps,after:=ed,guard:=gd }).run prog w=.ok (.enter 31 #[z0,z1]) w:=by
 unfold execOp
 go_simp
 rw[← h0,← h1]
 simp[Act.eval]
theorem zms (a:Act) (w:World) (d t0 t1:Nat) (u:TypeId) (ps:String) (ed:Array Edge) (gd:Option (Nat × Bool)) (z0 z1:Value) (h0:a.eval (.tmp t0)=z0) (h1:a.eval (.tmp t1)=z1) :
  (execOp a.eval { dst:=some d,op:=Op.call { callee:=Callee.value (Operand.func 63),args:=#[Operand.tmp t0,Operand.tmp t1],argTypes:=#[27,3] },type:=u,pos:=ps,after:=ed,guard:=gd }).run prog w=.ok (.enter 63 #[z0,z1]) w:=by
 unfold execOp
 go_simp
 rw[← h0,← h1]
 simp[Act.eval]
theorem zkx (a:Act) (w:World) (d:Nat) (u:TypeId) (ps:String) (ed:Array Edge) (gd:Option (Nat × Bool)) :
  (execOp a.eval { dst:=some d,op:=Op.assign (Operand.const Value.nilIface),type:=u,pos:=ps,after:=ed,guard:=gd }).run prog w=.ok (.value .nilIface) w:=by
 unfold execOp
 go_simp
theorem zql (a:Act) (w:World) (d t1 t2:Nat) (u:TypeId) (ps:String) (ed:Array Edge) (gd:Option (Nat × Bool)) (b off n c k:Nat) (hk:k<n) (_hn:n<1000000) (h1:a.eval (.tmp t1)=.slice (some ⟨b,off,none⟩) n c) (h2:a.eval (.tmp t2)=.int .i64 (k:Int)) :
  (execOp a.eval { dst:=some d,op:=Op.indexAddr 62 (.tmp t1) (.tmp t2),type:=u,pos:=ps,after:=ed,guard:=gd }).run prog w=.ok (.value (.pointer (some ⟨b,off+k*4,none⟩))) w:=by
 unfold execOp
 simp only[h1,h2]
 go_simp
def qap:Oper:=⟨some 8,.load 27 (.tmp 2),27, "credit.go:99",#[],none⟩
def qao:Oper:=⟨some 9,.move (.tmp 1),3, "credit.go:99",#[],none⟩
def qan:Oper:=⟨some 10,.call { callee:=.value (.func 71),args:=#[.tmp 9],argTypes:=#[3] },27, "credit.go:99",#[⟨1,.data⟩],none⟩
def qam:Oper:=⟨some 11,.call { callee:=.value (.func 119),args:=#[.tmp 8,.tmp 10],argTypes:=#[27,27] },30, "credit.go:99",#[⟨0,.data⟩,⟨2,.data⟩,⟨2,.chain⟩],none⟩
def qal:Oper:=⟨some 7,.move (.tmp 11),30, "credit.go:99",#[⟨3,.data⟩],none⟩
def qak:Oper:=⟨some 12,.extract (.tmp 7) 0,27, "credit.go:99",#[⟨4,.data⟩],none⟩
def qaj:Oper:=⟨some 13,.extract (.tmp 7) 1,29, "credit.go:99",#[⟨4,.data⟩,{ on:=8,ground:=.gcOnly Departure.lateStores }],none⟩
def qai:Oper:=⟨some 5,.alloc 27,0, "credit.go:99",#[],none⟩
def qah:Oper:=⟨none,.store 27 (.tmp 5) (.tmp 12),0, "credit.go:99",#[⟨7,.data⟩,⟨5,.data⟩,⟨3,.chain⟩,⟨0,.phase⟩,⟨1,.phase⟩,⟨2,.phase⟩,⟨3,.phase⟩,⟨4,.phase⟩,⟨5,.phase⟩,{ on:=6,ground:=.textOnly Departure.lateStores },⟨7,.phase⟩],none⟩
def qag:Oper:=⟨some 6,.assign (.tmp 13),29, "credit.go:99",#[⟨6,.data⟩,⟨8,.chain⟩,⟨0,.phase⟩,⟨1,.phase⟩,⟨2,.phase⟩,⟨3,.phase⟩,⟨4,.phase⟩,⟨5,.phase⟩,⟨6,.phase⟩,⟨7,.phase⟩,⟨8,.phase⟩],none⟩
def mh:Array Oper:=#[qap,qao,qan,qam,qal,qak,qaj,qai,qah,qag]
def zau (i:Nat):Nat:=match i with
 | 0=>8
 | 1=>9
 | 2=>10
 | 3=>11
 | 4=>7
 | 5=>12
 | 6=>13
 | 7=>5
 | _=>6
def zdi (B:Nat) (n:Int) (s1:Bool) (x1:Int) (y1:Int) (p1:Option Addr) (ws:Bool) (wx:Int) (f:Rat) (i:Nat) (w:World) (v:Value):Prop:=match i with
 | 0=>v=.agg #[.bool s1,.int .u64 x1,.int .u64 y1,.pointer p1]
 | 1=>v=.int .i64 n
 | 2=>v=.agg #[.bool ws,.int .u64 wx,.int .u64 0,.pointer none]
 | 3=>zn (f) w v
 | 4=>zn (f) w v
 | 5=>aq w v f
 | 6=>v=.nilIface
 | 7=>qh B w v
 | _=>True
theorem zng {B:Nat} {n:Int} {s1:Bool} {x1:Int} {y1:Int} {p1:Option Addr} {ws:Bool} {wx:Int} {f:Rat} {i:Nat} {w w':World} {v:Value} (h:zdi B n s1 x1 y1 p1 ws wx f i w v) (hi:i<9) (hb:But [] w w'):zdi B n s1 x1 y1 p1 ws wx f i w' v:=by
 have:i=0∨i=1∨i=2∨i=3∨i=4∨i=5∨i=6∨i=7∨i=8:=by omega
 rcases this with rfl|rfl|rfl|rfl|rfl|rfl|rfl|rfl|rfl
 ·exact (show v=.agg #[.bool s1,.int .u64 x1,.int .u64 y1,.pointer p1] from h)
 ·exact (show v=.int .i64 n from h)
 ·exact (show v=.agg #[.bool ws,.int .u64 wx,.int .u64 0,.pointer none] from h)
 ·exact zn.but (show zn (f) w v from h) hb
 ·exact zn.but (show zn (f) w v from h) hb
 ·exact aq.but (show aq w v f from h) hb
 ·exact (show v=.nilIface from h)
 ·exact qh.but (show qh B w v from h) hb
 ·exact trivial
theorem znf {B:Nat} {n:Int} {s1:Bool} {x1:Int} {y1:Int} {p1:Option Addr} {ws:Bool} {wx:Int} {f:Rat} {i:Nat} {w:World} {v:Value} {g0:Nat} {s0:Bool} {x0 y0:Int} {p0:Option Addr} (hg:P4 w g0 s0 x0 y0 p0) (s':Bool) (x' y':Int) (p':Option Addr) (h:zdi B n s1 x1 y1 p1 ws wx f i w v) (hi:i<9):zdi B n s1 x1 y1 p1 ws wx f i (zy w g0 s' x' y' p') v:=by
 have:i=0∨i=1∨i=2∨i=3∨i=4∨i=5∨i=6∨i=7∨i=8:=by omega
 rcases this with rfl|rfl|rfl|rfl|rfl|rfl|rfl|rfl|rfl
 ·exact (show v=.agg #[.bool s1,.int .u64 x1,.int .u64 y1,.pointer p1] from h)
 ·exact (show v=.int .i64 n from h)
 ·exact (show v=.agg #[.bool ws,.int .u64 wx,.int .u64 0,.pointer none] from h)
 ·exact zn.put (show zn (f) w v from h) hg _ _ _ _
 ·exact zn.put (show zn (f) w v from h) hg _ _ _ _
 ·exact aq.over (show aq w v f from h) hg.1 (ay _ _ _ _ _ _)
 ·exact (show v=.nilIface from h)
 ·exact qh.put (show qh B w v from h) hg _ _ _ _
 ·exact trivial
theorem zne:∀ i j,i<9→j<9→zau i=zau j→i=j:=fun i j hi hj=>(by decide:∀ i,i<9→∀ j,j<9→zau i=zau j→i=j) i hi j hj
theorem zik (id:Nat) (Q:Exit→Act→World→Prop) (base:Act) (W0:World) (B:Nat) (n:Int) (s1:Bool) (x1:Int) (y1:Int) (p1:Option Addr) (ws:Bool) (wx:Int) (f:Rat) (hs:13<base.tmps.size) (g2:Nat) (hBW:B=W0.heap.size) (e2:base.eval (.tmp 2)=.pointer (some ⟨g2,0,none⟩)) (e1:base.eval (.tmp 1)=.int .i64 n)
  (c1:P4 W0 g2 s1 x1 y1 p1)
  (WH:∀ w,Calls prog 71 #[.int .i64 n] w fun e w'=>e=.returned (.agg #[.bool ws,.int .u64 wx,.int .u64 0,.pointer none])∧But [] w w')
  (DI:∀ w,But [] W0 w→Calls prog 119 #[.agg #[.bool s1,.int .u64 x1,.int .u64 y1,.pointer p1],.agg #[.bool ws,.int .u64 wx,.int .u64 0,.pointer none]] w fun e w'=>∃ v,e=.returned (.tuple #[v,.nilIface])∧aq w' v f∧But [] w w')
  (hQ:∀ w1 bn v3 v4 v5 v8 s' x' y' p',But [] W0 w1→B≤bn→P4 w1 bn s' x' y' p'→aq w1 (.agg #[.bool s',.int .u64 x',.int .u64 y',.pointer p']) (f)→Q .normal (bk base [(8,.agg #[.bool s1,.int .u64 x1,.int .u64 y1,.pointer p1]),(9,.int .i64 n),(10,.agg #[.bool ws,.int .u64 wx,.int .u64 0,.pointer none]),(11,v3),(7,v4),(12,v5),(13,.nilIface),(5,.pointer (some ⟨bn,0,none⟩)),(6,v8),(6,.nilIface)]) w1) :
  (Code.region id mh true).wp prog Q base W0:=by
 have hdr:∀ {w},But [] W0.drew w→But [] W0 w:=fun h=>(But.refl _ _).drew.trans' h
 have hT:∀ i,i<9→zau i<base.tmps.size:=fun i hi=>by
  have h:zau i≤13:=by revert i;decide
  omega
 refine zdx (by kernel_rfl) (xu (by kernel_rfl)) (fun i o ho=>(mo (ops:=mh) (by kernel_rfl) i o ho).1)
  (zdi B n s1 x1 y1 p1 ws wx f) zau 9 8 7 (by omega) (zfe B (f)) rfl zne hT (fun i w w' v hi h hb=>zng h hi hb) (fun _ _=>trivial) (fun w w' v h hb=>h.but hb)
  (fun i hi=>?_) (vv (ops:=mh) (ps:=[(8,7)]) (by kernel_rfl) 8 7 (by simp)) ?_ ?_ (fun a w=>∃ w1 bn v3 v4 v5 v8 s' x' y' p',a=bk base [(8,.agg #[.bool s1,.int .u64 x1,.int .u64 y1,.pointer p1]),(9,.int .i64 n),(10,.agg #[.bool ws,.int .u64 wx,.int .u64 0,.pointer none]),(11,v3),(7,v4),(12,v5),(13,.nilIface),(5,.pointer (some ⟨bn,0,none⟩)),(6,v8),(6,.nilIface)]∧w=w1∧But [] W0 w1∧B≤bn∧P4 w1 bn s' x' y' p'∧aq w1 (.agg #[.bool s',.int .u64 x',.int .u64 y',.pointer p']) (f)) ?_ ?_ (by omega)
 ·exact vv (ops:=mh) (ps:=[(9,0),(9,1),(9,2),(9,3),(9,4),(9,5),(9,6),(9,7),(9,8)]) (by kernel_rfl) 9 i (by
   have:i=0∨i=1∨i=2∨i=3∨i=4∨i=5∨i=6∨i=7∨i=8:=by omega
   rcases this with rfl|rfl|rfl|rfl|rfl|rfl|rfl|rfl|rfl <;> simp)
 ·intro i o a w K hi hiq ho hH he hdep hK
  have hD:=j4 (ps:=[(2,1),(3,0),(3,2),(4,3),(5,4),(6,4),(8,0),(8,1),(8,2),(8,3),(8,4),(8,5),(8,7)]) (by kernel_rfl) ho (fun j=>zdi B n s1 x1 y1 p1 ws wx f j w (a.eval (.tmp (zau j)))) hdep
  have hk:∀ v w',But [] w w'→zdi B n s1 x1 y1 p1 ws wx f i w' v→K (a.put (some (zau i)) v) w':=hK
  have e2':=(he 2 (fun j hj e=>absurd e.symm (by revert j;decide))).trans e2
  have e1':=(he 1 (fun j hj e=>absurd e.symm (by revert j;decide))).trans e1
  have:i=0∨i=1∨i=2∨i=3∨i=4∨i=5∨i=6∨i=7∨i=8:=by omega
  rcases this with rfl|rfl|rfl|rfl|rfl|rfl|rfl|rfl|rfl
  ·obtain rfl:=so (show mh[0]? =some qap from rfl) ho
   exact an (ax a w _ _ _ _ _ _ g2 0 _ _ _ _ e2' (c1.but (hdr hH) (by simp))) (hk _ _ (But.refl _ _) rfl)
  ·obtain rfl:=so (show mh[1]? =some qao from rfl) ho
   exact an (bz a w _ _ _ _ _ _ _ e1') (hk _ _ (But.refl _ _) rfl)
  ·obtain rfl:=so (show mh[2]? =some qan from rfl) ho
   exact az (zkc a w _ _ _ _ _ _ _ (hD 1 (by simp))) (R:=fun w' v=>But [] w w'∧v=_) ((WH w).mono fun e w' ⟨he,hb⟩=>⟨_,he,hb,rfl⟩) (fun v w' hv=>hk v w' hv.1 hv.2)
  ·obtain rfl:=so (show mh[3]? =some qam from rfl) ho
   exact az (zie a w _ _ _ _ _ _ _ _ _ (hD 0 (by simp)) (hD 2 (by simp))) (R:=fun w' v=>zn (f) w' v∧But [] w w') ((DI w (hdr hH)).mono fun e w' ⟨v,he,hf,hb⟩=>⟨_,he,⟨v,rfl,hf⟩,hb⟩) (fun v w' hv=>hk v w' hv.2 hv.1)
  ·obtain rfl:=so (show mh[4]? =some qal from rfl) ho
   exact an (bz a w _ _ _ _ _ _ _ rfl) (hk _ _ (But.refl _ _) (hD 3 (by simp)))
  ·obtain rfl:=so (show mh[5]? =some qak from rfl) ho
   obtain⟨u,eu,hu⟩:zn (f) w _:=(hD 4 (by simp))
   exact an (zbq a w _ _ _ _ _ _ _ _ u eu rfl) (hk _ _ (But.refl _ _) hu)
  ·obtain rfl:=so (show mh[6]? =some qaj from rfl) ho
   obtain⟨u,eu,hu⟩:zn (f) w _:=(hD 4 (by simp))
   exact an (zbq a w _ _ _ _ _ _ _ _ .nilIface eu rfl) (hk _ _ (But.refl _ _) rfl)
  ·obtain rfl:=so (show mh[7]? =some qai from rfl) ho
   exact an (uh a w _ _ _ _ _) (hk _ _ ((But.refl _ _).alloc _) ⟨w.heap.size,rfl,by rw[hBW];exact (hdr hH).size,⟨false,0,0,none,by simp,by simp,by simp,by simp⟩,fun j=>by simp⟩)
  ·exact absurd rfl hiq
 ·intro o a w K ho hH he hdep hK
  have hD:=j4 (ps:=[(8,7),(8,5)]) (by kernel_rfl) ho (fun j=>zdi B n s1 x1 y1 p1 ws wx f j w (a.eval (.tmp (zau j)))) hdep
  obtain rfl:=so (show mh[8]? =some qah from rfl) ho
  have cl:aq w (a.eval (.tmp 12)) (f):=hD 5 (by simp)
  obtain⟨bn,eb,hb1,⟨s0,x0,y0,p0,hb2⟩,hb3⟩:qh B w (a.eval (.tmp 5)):=hD 7 (by simp)
  have cl':=cl
  obtain⟨x',y',p',ev,-⟩:=cl.agg
  rw[ev] at cl'
  exact jo (kz a w _ _ _ _ _ bn _ x' y' p' eb ev hb2 hb3) (hK _ (hH.trans (ay w bn _ x' y' p') (fun x hx=>by simp at hx;subst hx;exact .inr (by rw[hBW] at hb1;exact hb1))) (fun j hj u hu=>znf hb2 _ x' y' p' hu hj) ⟨bn,_,x',y',p',eb,hb1,jl w bn _ x' y' p' hb2,cl'.over hb2.1 (ay w bn _ x' y' p')⟩)
 ·intro dn o a w K ho hall h hst hK
  obtain rfl:=so (show mh[9]? =some qag from rfl) ho
  obtain⟨bn,s',x',y',p',eb,hb1,hb2,hb3⟩:=hst
  have eb:a.eval (.tmp 5)=.pointer (some ⟨bn,0,none⟩):=eb
  have ea:=h.puts hT (fun i=>match i with
   | 0=>.agg #[.bool s1,.int .u64 x1,.int .u64 y1,.pointer p1]
   | 1=>.int .i64 n
   | 2=>.agg #[.bool ws,.int .u64 wx,.int .u64 0,.pointer none]
   | 3=>a.eval (.tmp 11)
   | 4=>a.eval (.tmp 7)
   | 5=>a.eval (.tmp 12)
   | 6=>.nilIface
   | 7=>.pointer (some ⟨bn,0,none⟩)
   | _=>a.eval (.tmp 6)) (fun i hi=>by
   have hc:=h.has i hi (hall i hi)
   have:i=0∨i=1∨i=2∨i=3∨i=4∨i=5∨i=6∨i=7∨i=8:=by omega
   rcases this with rfl|rfl|rfl|rfl|rfl|rfl|rfl|rfl|rfl
   ·exact hc
   ·exact hc
   ·exact hc
   ·rfl
   ·rfl
   ·rfl
   ·exact hc
   ·exact eb
   ·rfl)
  have ea2:a=bk base [(8,.agg #[.bool s1,.int .u64 x1,.int .u64 y1,.pointer p1]),(9,.int .i64 n),(10,.agg #[.bool ws,.int .u64 wx,.int .u64 0,.pointer none]),(11,a.eval (.tmp 11)),(7,a.eval (.tmp 7)),(12,a.eval (.tmp 12)),(13,.nilIface),(5,.pointer (some ⟨bn,0,none⟩)),(6,a.eval (.tmp 6))]:=ea
  have ea3:a.put (some 6) (.nilIface)=bk base ([(8,.agg #[.bool s1,.int .u64 x1,.int .u64 y1,.pointer p1]),(9,.int .i64 n),(10,.agg #[.bool ws,.int .u64 wx,.int .u64 0,.pointer none]),(11,a.eval (.tmp 11)),(7,a.eval (.tmp 7)),(12,a.eval (.tmp 12)),(13,.nilIface),(5,.pointer (some ⟨bn,0,none⟩)),(6,a.eval (.tmp 6))]++[(6,.nilIface)]):=(congrArg (fun z:Act=>z.put (some 6) (.nilIface)) ea2).trans (ui _ _ _ _)
  have hev:a.eval (.tmp 13)=.nilIface:=h.has 6 (by omega) (hall 6 (by omega))
  exact an (zqm _ _ _ _ _ _ _ _ _ hev) (hK _ _ ⟨w,bn,a.eval (.tmp 11),a.eval (.tmp 7),a.eval (.tmp 12),a.eval (.tmp 6),s',x',y',p',ea3,rfl,hdr h.mem,hb1,hb2,hb3⟩)
 ·rintro a w ⟨w1,bn,v3,v4,v5,v8,s',x',y',p',rfl,rfl,h1,h2,h3,h4⟩
  exact hQ _ bn v3 v4 v5 v8 s' x' y' p' h1 h2 h3 h4
def qaf:Oper:=⟨some 12,.load 27 (.tmp 2),27, "credit.go:73",#[],none⟩
def qae:Oper:=⟨some 13,.load 27 (.tmp 2),27, "credit.go:73",#[],none⟩
def qad:Oper:=⟨some 14,.load 27 (.tmp 3),27, "credit.go:73",#[],none⟩
def qac:Oper:=⟨some 15,.call { callee:=.value (.func 73),args:=#[.tmp 13,.tmp 14],argTypes:=#[27,27] },27, "credit.go:73",#[⟨1,.data⟩,⟨2,.data⟩],none⟩
def qab:Oper:=⟨some 16,.call { callee:=.value (.func 119),args:=#[.tmp 12,.tmp 15],argTypes:=#[27,27] },30, "credit.go:73",#[⟨0,.data⟩,⟨3,.data⟩,⟨3,.chain⟩],none⟩
def qaa:Oper:=⟨some 11,.move (.tmp 16),30, "credit.go:73",#[⟨4,.data⟩],none⟩
def zzz:Oper:=⟨some 17,.extract (.tmp 11) 0,27, "credit.go:73",#[⟨5,.data⟩],none⟩
def zzy:Oper:=⟨some 18,.extract (.tmp 11) 1,29, "credit.go:73",#[⟨5,.data⟩,{ on:=9,ground:=.gcOnly Departure.lateStores }],none⟩
def zzx:Oper:=⟨some 5,.alloc 27,0, "credit.go:73",#[],none⟩
def zzw:Oper:=⟨none,.store 27 (.tmp 5) (.tmp 17),0, "credit.go:73",#[⟨8,.data⟩,⟨6,.data⟩,⟨4,.chain⟩,⟨0,.phase⟩,⟨1,.phase⟩,⟨2,.phase⟩,⟨3,.phase⟩,⟨4,.phase⟩,⟨5,.phase⟩,⟨6,.phase⟩,{ on:=7,ground:=.textOnly Departure.lateStores },⟨8,.phase⟩],none⟩
def zrp:Oper:=⟨some 6,.assign (.tmp 18),29, "credit.go:73",#[⟨7,.data⟩,⟨9,.chain⟩,⟨0,.phase⟩,⟨1,.phase⟩,⟨2,.phase⟩,⟨3,.phase⟩,⟨4,.phase⟩,⟨5,.phase⟩,⟨6,.phase⟩,⟨7,.phase⟩,⟨8,.phase⟩,⟨9,.phase⟩],none⟩
def dz:Array Oper:=#[qaf,qae,qad,qac,qab,qaa,zzz,zzy,zzx,zzw,zrp]
def zat (i:Nat):Nat:=match i with
 | 0=>12
 | 1=>13
 | 2=>14
 | 3=>15
 | 4=>16
 | 5=>11
 | 6=>17
 | 7=>18
 | 8=>5
 | _=>6
def zdh (B:Nat) (s1:Bool) (x1:Int) (y1:Int) (p1:Option Addr) (s2:Bool) (x2:Int) (y2:Int) (p2:Option Addr) (f1:Rat) (f2:Rat) (i:Nat) (w:World) (v:Value):Prop:=match i with
 | 0=>v=.agg #[.bool s1,.int .u64 x1,.int .u64 y1,.pointer p1]
 | 1=>v=.agg #[.bool s1,.int .u64 x1,.int .u64 y1,.pointer p1]
 | 2=>v=.agg #[.bool s2,.int .u64 x2,.int .u64 y2,.pointer p2]
 | 3=>aq w v (f1+f2)
 | 4=>zn (f1/(f1+f2)) w v
 | 5=>zn (f1/(f1+f2)) w v
 | 6=>aq w v (f1/(f1+f2))
 | 7=>v=.nilIface
 | 8=>qh B w v
 | _=>True
theorem znd {B:Nat} {s1:Bool} {x1:Int} {y1:Int} {p1:Option Addr} {s2:Bool} {x2:Int} {y2:Int} {p2:Option Addr} {f1:Rat} {f2:Rat} {i:Nat} {w w':World} {v:Value} (h:zdh B s1 x1 y1 p1 s2 x2 y2 p2 f1 f2 i w v) (hi:i<10) (hb:But [] w w'):zdh B s1 x1 y1 p1 s2 x2 y2 p2 f1 f2 i w' v:=by
 have:i=0∨i=1∨i=2∨i=3∨i=4∨i=5∨i=6∨i=7∨i=8∨i=9:=by omega
 rcases this with rfl|rfl|rfl|rfl|rfl|rfl|rfl|rfl|rfl|rfl
 ·exact (show v=.agg #[.bool s1,.int .u64 x1,.int .u64 y1,.pointer p1] from h)
 ·exact (show v=.agg #[.bool s1,.int .u64 x1,.int .u64 y1,.pointer p1] from h)
 ·exact (show v=.agg #[.bool s2,.int .u64 x2,.int .u64 y2,.pointer p2] from h)
 ·exact aq.but (show aq w v (f1+f2) from h) hb
 ·exact zn.but (show zn (f1/(f1+f2)) w v from h) hb
 ·exact zn.but (show zn (f1/(f1+f2)) w v from h) hb
 ·exact aq.but (show aq w v (f1/(f1+f2)) from h) hb
 ·exact (show v=.nilIface from h)
 ·exact qh.but (show qh B w v from h) hb
 ·exact trivial
theorem znc {B:Nat} {s1:Bool} {x1:Int} {y1:Int} {p1:Option Addr} {s2:Bool} {x2:Int} {y2:Int} {p2:Option Addr} {f1:Rat} {f2:Rat} {i:Nat} {w:World} {v:Value} {g0:Nat} {s0:Bool} {x0 y0:Int} {p0:Option Addr} (hg:P4 w g0 s0 x0 y0 p0) (s':Bool) (x' y':Int) (p':Option Addr) (h:zdh B s1 x1 y1 p1 s2 x2 y2 p2 f1 f2 i w v) (hi:i<10):zdh B s1 x1 y1 p1 s2 x2 y2 p2 f1 f2 i (zy w g0 s' x' y' p') v:=by
 have:i=0∨i=1∨i=2∨i=3∨i=4∨i=5∨i=6∨i=7∨i=8∨i=9:=by omega
 rcases this with rfl|rfl|rfl|rfl|rfl|rfl|rfl|rfl|rfl|rfl
 ·exact (show v=.agg #[.bool s1,.int .u64 x1,.int .u64 y1,.pointer p1] from h)
 ·exact (show v=.agg #[.bool s1,.int .u64 x1,.int .u64 y1,.pointer p1] from h)
 ·exact (show v=.agg #[.bool s2,.int .u64 x2,.int .u64 y2,.pointer p2] from h)
 ·exact aq.over (show aq w v (f1+f2) from h) hg.1 (ay _ _ _ _ _ _)
 ·exact zn.put (show zn (f1/(f1+f2)) w v from h) hg _ _ _ _
 ·exact zn.put (show zn (f1/(f1+f2)) w v from h) hg _ _ _ _
 ·exact aq.over (show aq w v (f1/(f1+f2)) from h) hg.1 (ay _ _ _ _ _ _)
 ·exact (show v=.nilIface from h)
 ·exact qh.put (show qh B w v from h) hg _ _ _ _
 ·exact trivial
theorem znb:∀ i j,i<10→j<10→zat i=zat j→i=j:=fun i j hi hj=>(by decide:∀ i,i<10→∀ j,j<10→zat i=zat j→i=j) i hi j hj
theorem zkf (id:Nat) (Q:Exit→Act→World→Prop) (base:Act) (W0:World) (B:Nat) (s1:Bool) (x1:Int) (y1:Int) (p1:Option Addr) (s2:Bool) (x2:Int) (y2:Int) (p2:Option Addr) (f1:Rat) (f2:Rat) (hs:18<base.tmps.size) (g2 g3:Nat) (hBW:B=W0.heap.size) (e2:base.eval (.tmp 2)=.pointer (some ⟨g2,0,none⟩)) (e3:base.eval (.tmp 3)=.pointer (some ⟨g3,0,none⟩))
  (c1:P4 W0 g2 s1 x1 y1 p1) (c2:P4 W0 g3 s2 x2 y2 p2)
  (AD:∀ w,But [] W0 w→Calls prog 73 #[.agg #[.bool s1,.int .u64 x1,.int .u64 y1,.pointer p1],.agg #[.bool s2,.int .u64 x2,.int .u64 y2,.pointer p2]] w fun e w'=>∃ v,e=.returned v∧aq w' v (f1+f2)∧But [] w w')
  (DI:∀ w,But [] W0 w→∀ v,aq w v (f1+f2)→Calls prog 119 #[.agg #[.bool s1,.int .u64 x1,.int .u64 y1,.pointer p1],v] w fun e w'=>∃ v,e=.returned (.tuple #[v,.nilIface])∧aq w' v (f1/(f1+f2))∧But [] w w')
  (hQ:∀ w1 bn v3 v4 v5 v6 v9 s' x' y' p',But [] W0 w1→B≤bn→P4 w1 bn s' x' y' p'→aq w1 (.agg #[.bool s',.int .u64 x',.int .u64 y',.pointer p']) (f1/(f1+f2))→Q .normal (bk base [(12,.agg #[.bool s1,.int .u64 x1,.int .u64 y1,.pointer p1]),(13,.agg #[.bool s1,.int .u64 x1,.int .u64 y1,.pointer p1]),(14,.agg #[.bool s2,.int .u64 x2,.int .u64 y2,.pointer p2]),(15,v3),(16,v4),(11,v5),(17,v6),(18,.nilIface),(5,.pointer (some ⟨bn,0,none⟩)),(6,v9),(6,.nilIface)]) w1) :
  (Code.region id dz true).wp prog Q base W0:=by
 have hdr:∀ {w},But [] W0.drew w→But [] W0 w:=fun h=>(But.refl _ _).drew.trans' h
 have hT:∀ i,i<10→zat i<base.tmps.size:=fun i hi=>by
  have h:zat i≤18:=by revert i;decide
  omega
 refine zdx (by kernel_rfl) (xu (by kernel_rfl)) (fun i o ho=>(mo (ops:=dz) (by kernel_rfl) i o ho).1)
  (zdh B s1 x1 y1 p1 s2 x2 y2 p2 f1 f2) zat 10 9 8 (by omega) (zfe B (f1/(f1+f2))) rfl znb hT (fun i w w' v hi h hb=>znd h hi hb) (fun _ _=>trivial) (fun w w' v h hb=>h.but hb)
  (fun i hi=>?_) (vv (ops:=dz) (ps:=[(9,8)]) (by kernel_rfl) 9 8 (by simp)) ?_ ?_ (fun a w=>∃ w1 bn v3 v4 v5 v6 v9 s' x' y' p',a=bk base [(12,.agg #[.bool s1,.int .u64 x1,.int .u64 y1,.pointer p1]),(13,.agg #[.bool s1,.int .u64 x1,.int .u64 y1,.pointer p1]),(14,.agg #[.bool s2,.int .u64 x2,.int .u64 y2,.pointer p2]),(15,v3),(16,v4),(11,v5),(17,v6),(18,.nilIface),(5,.pointer (some ⟨bn,0,none⟩)),(6,v9),(6,.nilIface)]∧w=w1∧But [] W0 w1∧B≤bn∧P4 w1 bn s' x' y' p'∧aq w1 (.agg #[.bool s',.int .u64 x',.int .u64 y',.pointer p']) (f1/(f1+f2))) ?_ ?_ (by omega)
 ·exact vv (ops:=dz) (ps:=[(10,0),(10,1),(10,2),(10,3),(10,4),(10,5),(10,6),(10,7),(10,8),(10,9)]) (by kernel_rfl) 10 i (by
   have:i=0∨i=1∨i=2∨i=3∨i=4∨i=5∨i=6∨i=7∨i=8∨i=9:=by omega
   rcases this with rfl|rfl|rfl|rfl|rfl|rfl|rfl|rfl|rfl|rfl <;> simp)
 ·intro i o a w K hi hiq ho hH he hdep hK
  have hD:=j4 (ps:=[(3,1),(3,2),(4,0),(4,3),(5,4),(6,5),(7,5),(9,0),(9,1),(9,2),(9,3),(9,4),(9,5),(9,6),(9,8)]) (by kernel_rfl) ho (fun j=>zdh B s1 x1 y1 p1 s2 x2 y2 p2 f1 f2 j w (a.eval (.tmp (zat j)))) hdep
  have hk:∀ v w',But [] w w'→zdh B s1 x1 y1 p1 s2 x2 y2 p2 f1 f2 i w' v→K (a.put (some (zat i)) v) w':=hK
  have e2':=(he 2 (fun j hj e=>absurd e.symm (by revert j;decide))).trans e2
  have e3':=(he 3 (fun j hj e=>absurd e.symm (by revert j;decide))).trans e3
  have:i=0∨i=1∨i=2∨i=3∨i=4∨i=5∨i=6∨i=7∨i=8∨i=9:=by omega
  rcases this with rfl|rfl|rfl|rfl|rfl|rfl|rfl|rfl|rfl|rfl
  ·obtain rfl:=so (show dz[0]? =some qaf from rfl) ho
   exact an (ax a w _ _ _ _ _ _ g2 0 _ _ _ _ e2' (c1.but (hdr hH) (by simp))) (hk _ _ (But.refl _ _) rfl)
  ·obtain rfl:=so (show dz[1]? =some qae from rfl) ho
   exact an (ax a w _ _ _ _ _ _ g2 0 _ _ _ _ e2' (c1.but (hdr hH) (by simp))) (hk _ _ (But.refl _ _) rfl)
  ·obtain rfl:=so (show dz[2]? =some qad from rfl) ho
   exact an (ax a w _ _ _ _ _ _ g3 0 _ _ _ _ e3' (c2.but (hdr hH) (by simp))) (hk _ _ (But.refl _ _) rfl)
  ·obtain rfl:=so (show dz[3]? =some qac from rfl) ho
   exact az (zde a w _ _ _ _ _ _ _ _ _ (hD 1 (by simp)) (hD 2 (by simp))) (R:=fun w' v=>aq w' v (f1+f2)∧But [] w w') (AD w (hdr hH)) (fun v w' hv=>hk v w' hv.2 hv.1)
  ·obtain rfl:=so (show dz[4]? =some qab from rfl) ho
   exact az (zie a w _ _ _ _ _ _ _ _ _ (hD 0 (by simp)) rfl) (R:=fun w' v=>zn (f1/(f1+f2)) w' v∧But [] w w') ((DI w (hdr hH) _ (hD 3 (by simp))).mono fun e w' ⟨v,he,hf,hb⟩=>⟨_,he,⟨v,rfl,hf⟩,hb⟩) (fun v w' hv=>hk v w' hv.2 hv.1)
  ·obtain rfl:=so (show dz[5]? =some qaa from rfl) ho
   exact an (bz a w _ _ _ _ _ _ _ rfl) (hk _ _ (But.refl _ _) (hD 4 (by simp)))
  ·obtain rfl:=so (show dz[6]? =some zzz from rfl) ho
   obtain⟨u,eu,hu⟩:zn (f1/(f1+f2)) w _:=(hD 5 (by simp))
   exact an (zbq a w _ _ _ _ _ _ _ _ u eu rfl) (hk _ _ (But.refl _ _) hu)
  ·obtain rfl:=so (show dz[7]? =some zzy from rfl) ho
   obtain⟨u,eu,hu⟩:zn (f1/(f1+f2)) w _:=(hD 5 (by simp))
   exact an (zbq a w _ _ _ _ _ _ _ _ .nilIface eu rfl) (hk _ _ (But.refl _ _) rfl)
  ·obtain rfl:=so (show dz[8]? =some zzx from rfl) ho
   exact an (uh a w _ _ _ _ _) (hk _ _ ((But.refl _ _).alloc _) ⟨w.heap.size,rfl,by rw[hBW];exact (hdr hH).size,⟨false,0,0,none,by simp,by simp,by simp,by simp⟩,fun j=>by simp⟩)
  ·exact absurd rfl hiq
 ·intro o a w K ho hH he hdep hK
  have hD:=j4 (ps:=[(9,8),(9,6)]) (by kernel_rfl) ho (fun j=>zdh B s1 x1 y1 p1 s2 x2 y2 p2 f1 f2 j w (a.eval (.tmp (zat j)))) hdep
  obtain rfl:=so (show dz[9]? =some zzw from rfl) ho
  have cl:aq w (a.eval (.tmp 17)) (f1/(f1+f2)):=hD 6 (by simp)
  obtain⟨bn,eb,hb1,⟨s0,x0,y0,p0,hb2⟩,hb3⟩:qh B w (a.eval (.tmp 5)):=hD 8 (by simp)
  have cl':=cl
  obtain⟨x',y',p',ev,-⟩:=cl.agg
  rw[ev] at cl'
  exact jo (kz a w _ _ _ _ _ bn _ x' y' p' eb ev hb2 hb3) (hK _ (hH.trans (ay w bn _ x' y' p') (fun x hx=>by simp at hx;subst hx;exact .inr (by rw[hBW] at hb1;exact hb1))) (fun j hj u hu=>znc hb2 _ x' y' p' hu hj) ⟨bn,_,x',y',p',eb,hb1,jl w bn _ x' y' p' hb2,cl'.over hb2.1 (ay w bn _ x' y' p')⟩)
 ·intro dn o a w K ho hall h hst hK
  obtain rfl:=so (show dz[10]? =some zrp from rfl) ho
  obtain⟨bn,s',x',y',p',eb,hb1,hb2,hb3⟩:=hst
  have eb:a.eval (.tmp 5)=.pointer (some ⟨bn,0,none⟩):=eb
  have ea:=h.puts hT (fun i=>match i with
   | 0=>.agg #[.bool s1,.int .u64 x1,.int .u64 y1,.pointer p1]
   | 1=>.agg #[.bool s1,.int .u64 x1,.int .u64 y1,.pointer p1]
   | 2=>.agg #[.bool s2,.int .u64 x2,.int .u64 y2,.pointer p2]
   | 3=>a.eval (.tmp 15)
   | 4=>a.eval (.tmp 16)
   | 5=>a.eval (.tmp 11)
   | 6=>a.eval (.tmp 17)
   | 7=>.nilIface
   | 8=>.pointer (some ⟨bn,0,none⟩)
   | _=>a.eval (.tmp 6)) (fun i hi=>by
   have hc:=h.has i hi (hall i hi)
   have:i=0∨i=1∨i=2∨i=3∨i=4∨i=5∨i=6∨i=7∨i=8∨i=9:=by omega
   rcases this with rfl|rfl|rfl|rfl|rfl|rfl|rfl|rfl|rfl|rfl
   ·exact hc
   ·exact hc
   ·exact hc
   ·rfl
   ·rfl
   ·rfl
   ·rfl
   ·exact hc
   ·exact eb
   ·rfl)
  have ea2:a=bk base [(12,.agg #[.bool s1,.int .u64 x1,.int .u64 y1,.pointer p1]),(13,.agg #[.bool s1,.int .u64 x1,.int .u64 y1,.pointer p1]),(14,.agg #[.bool s2,.int .u64 x2,.int .u64 y2,.pointer p2]),(15,a.eval (.tmp 15)),(16,a.eval (.tmp 16)),(11,a.eval (.tmp 11)),(17,a.eval (.tmp 17)),(18,.nilIface),(5,.pointer (some ⟨bn,0,none⟩)),(6,a.eval (.tmp 6))]:=ea
  have ea3:a.put (some 6) (.nilIface)=bk base ([(12,.agg #[.bool s1,.int .u64 x1,.int .u64 y1,.pointer p1]),(13,.agg #[.bool s1,.int .u64 x1,.int .u64 y1,.pointer p1]),(14,.agg #[.bool s2,.int .u64 x2,.int .u64 y2,.pointer p2]),(15,a.eval (.tmp 15)),(16,a.eval (.tmp 16)),(11,a.eval (.tmp 11)),(17,a.eval (.tmp 17)),(18,.nilIface),(5,.pointer (some ⟨bn,0,none⟩)),(6,a.eval (.tmp 6))]++[(6,.nilIface)]):=(congrArg (fun z:Act=>z.put (some 6) (.nilIface)) ea2).trans (ui _ _ _ _)
  have hev:a.eval (.tmp 18)=.nilIface:=h.has 7 (by omega) (hall 7 (by omega))
  exact an (zqm _ _ _ _ _ _ _ _ _ hev) (hK _ _ ⟨w,bn,a.eval (.tmp 15),a.eval (.tmp 16),a.eval (.tmp 11),a.eval (.tmp 17),a.eval (.tmp 6),s',x',y',p',ea3,rfl,hdr h.mem,hb1,hb2,hb3⟩)
 ·rintro a w ⟨w1,bn,v3,v4,v5,v6,v9,s',x',y',p',rfl,rfl,h1,h2,h3,h4⟩
  exact hQ _ bn v3 v4 v5 v6 v9 s' x' y' p' h1 h2 h3 h4
def qyw:Oper:=⟨some 10,.load 27 (.tmp 3),27, "credit.go:63",#[],none⟩
def qyv:Oper:=⟨some 11,.move (.tmp 0),62, "credit.go:63",#[],none⟩
def qyu:Oper:=⟨some 12,.move (.tmp 4),3, "credit.go:63",#[],none⟩
def qyt:Oper:=⟨some 13,.indexAddr 62 (.tmp 11) (.tmp 12),0, "credit.go:63",#[⟨1,.data⟩,⟨2,.data⟩],none⟩
def qys:Oper:=⟨some 14,.load 27 (.tmp 13),27, "credit.go:63",#[⟨3,.data⟩],none⟩
def qyr:Oper:=⟨some 15,.call { callee:=.value (.func 73),args:=#[.tmp 10,.tmp 14],argTypes:=#[27,27] },27, "credit.go:63",#[⟨0,.data⟩,⟨4,.data⟩],none⟩
def qyq:Oper:=⟨none,.store 27 (.tmp 3) (.tmp 15),0, "credit.go:63",#[⟨5,.data⟩,⟨5,.chain⟩,⟨0,.phase⟩,⟨1,.phase⟩,⟨2,.phase⟩,⟨3,.phase⟩,⟨4,.phase⟩,⟨5,.phase⟩],none⟩
def zju:Array Oper:=#[qyw,qyv,qyu,qyt,qys,qyr,qyq]
def zlx (i:Nat):Nat:=match i with
 | 0=>10
 | 1=>11
 | 2=>12
 | 3=>13
 | 4=>14
 | _=>15
def zzu (s1:Bool) (x1:Int) (y1:Int) (p1:Option Addr) (s2:Bool) (x2:Int) (y2:Int) (p2:Option Addr) (b:Nat) (off:Nat) (n:Nat) (c:Nat) (k:Nat) (f1:Rat) (f2:Rat) (i:Nat) (w:World) (v:Value):Prop:=match i with
 | 0=>v=.agg #[.bool s1,.int .u64 x1,.int .u64 y1,.pointer p1]
 | 1=>v=.slice (some ⟨b,off,none⟩) n c
 | 2=>v=.int .i64 (k:Int)
 | 3=>v=.pointer (some ⟨b,off+k*4,none⟩)
 | 4=>v=.agg #[.bool s2,.int .u64 x2,.int .u64 y2,.pointer p2]
 | _=>aq w v (f1+f2)
theorem qib {s1:Bool} {x1:Int} {y1:Int} {p1:Option Addr} {s2:Bool} {x2:Int} {y2:Int} {p2:Option Addr} {b:Nat} {off:Nat} {n:Nat} {c:Nat} {k:Nat} {f1:Rat} {f2:Rat} {i:Nat} {w w':World} {v:Value} (h:zzu s1 x1 y1 p1 s2 x2 y2 p2 b off n c k f1 f2 i w v) (hi:i<6) (hb:But [] w w'):zzu s1 x1 y1 p1 s2 x2 y2 p2 b off n c k f1 f2 i w' v:=by
 have:i=0∨i=1∨i=2∨i=3∨i=4∨i=5:=by omega
 rcases this with rfl|rfl|rfl|rfl|rfl|rfl
 all_goals first | exact h | exact aq.but h hb | exact au.but h hb
theorem qia:∀ i j,i<6→j<6→zlx i=zlx j→i=j:=fun i j hi hj=>(by decide:∀ i,i<6→∀ j,j<6→zlx i=zlx j→i=j) i hi j hj
theorem zvk (id:Nat) (Q:Exit→Act→World→Prop) (base:Act) (W0:World) (s1:Bool) (x1:Int) (y1:Int) (p1:Option Addr) (s2:Bool) (x2:Int) (y2:Int) (p2:Option Addr) (b:Nat) (off:Nat) (n:Nat) (c:Nat) (k:Nat) (f1:Rat) (f2:Rat) (gb:Nat) {sb:Bool} {xb yb:Int} {pb:Option Addr} (hs:15<base.tmps.size) (eb:base.eval (.tmp 3)=.pointer (some ⟨gb,0,none⟩)) (cb:P4 W0 gb sb xb yb pb) (fzb:∀ j,W0.frozen? ⟨gb,j,none⟩=false) (e0:base.eval (.tmp 0)=.slice (some ⟨b,off,none⟩) n c) (e4:base.eval (.tmp 4)=.int .i64 (k:Int))
  (hkn:k<n) (hn:n<1000000) (c1:P4 W0 gb s1 x1 y1 p1) (c2:P4o W0 b (off+k*4) s2 x2 y2 p2)
  (AD:∀ w,But [] W0 w→Calls prog 73 #[.agg #[.bool s1,.int .u64 x1,.int .u64 y1,.pointer p1],.agg #[.bool s2,.int .u64 x2,.int .u64 y2,.pointer p2]] w fun e w'=>∃ v,e=.returned v∧aq w' v (f1+f2)∧But [] w w')
  (hQ:∀ w1 s' x' y' p',But [] W0 w1→aq w1 (.agg #[.bool s',.int .u64 x',.int .u64 y',.pointer p']) (f1+f2)→Q .normal (bk base [(10,.agg #[.bool s1,.int .u64 x1,.int .u64 y1,.pointer p1]),(11,.slice (some ⟨b,off,none⟩) n c),(12,.int .i64 (k:Int)),(13,.pointer (some ⟨b,off+k*4,none⟩)),(14,.agg #[.bool s2,.int .u64 x2,.int .u64 y2,.pointer p2]),(15,(.agg #[.bool s',.int .u64 x',.int .u64 y',.pointer p']))]) (zy w1 gb s' x' y' p')) :
  (Code.region id zju true).wp prog Q base W0:=by
 have hdr:∀ {w},But [] W0.drew w→But [] W0 w:=fun h=>(But.refl _ _).drew.trans' h
 have lgb:gb<W0.heap.size:=ai cb.1
 have hT:∀ i,i<6→zlx i<base.tmps.size:=fun i hi=>by
  have h:zlx i≤15:=by revert i;decide
  omega
 refine l9 (by kernel_rfl) (xu (by kernel_rfl)) (fun i o ho=>(mo (ops:=zju) (by kernel_rfl) i o ho).1)
  (fun _ w=>But [] W0.drew w) (zzu s1 x1 y1 p1 s2 x2 y2 p2 b off n c k f1 f2) zlx 6 rfl qia hT (But.refl _ _)
  (fun i hi=>?_) ?_ (fun a w=>∃ w1 s' x' y' p',a=bk base [(10,.agg #[.bool s1,.int .u64 x1,.int .u64 y1,.pointer p1]),(11,.slice (some ⟨b,off,none⟩) n c),(12,.int .i64 (k:Int)),(13,.pointer (some ⟨b,off+k*4,none⟩)),(14,.agg #[.bool s2,.int .u64 x2,.int .u64 y2,.pointer p2]),(15,(.agg #[.bool s',.int .u64 x',.int .u64 y',.pointer p']))]∧w=zy w1 gb s' x' y' p'∧But [] W0 w1∧aq w1 (.agg #[.bool s',.int .u64 x',.int .u64 y',.pointer p']) (f1+f2)) ?_ ?_
 ·exact vv (ops:=zju) (ps:=[(6,0),(6,1),(6,2),(6,3),(6,4),(6,5)]) (by kernel_rfl) 6 i (by
   have:i=0∨i=1∨i=2∨i=3∨i=4∨i=5:=by omega
   rcases this with rfl|rfl|rfl|rfl|rfl|rfl <;> simp)
 ·intro dn i o a w K hi ho hdi hH he hdep hK
  have hD:=fun j hj=>(j4 (ps:=[(3,1),(3,2),(4,3),(5,0),(5,4)]) (by kernel_rfl) ho (fun j=>dn j=true∧zzu s1 x1 y1 p1 s2 x2 y2 p2 b off n c k f1 f2 j w (a.eval (.tmp (zlx j)))) hdep j hj).2
  have hk:∀ v w',But [] w w'→zzu s1 x1 y1 p1 s2 x2 y2 p2 b off n c k f1 f2 i w' v→K (a.put (some (zlx i)) v) w':=fun v w' hb hv=>hK v w' (hH.trans' hb) (fun j hj _ u hu=>qib hu hj hb) hv
  have eb':=(he 3 (fun j hj e=>absurd e.symm (by revert j;decide))).trans eb
  have e0':=(he 0 (fun j hj e=>absurd e.symm (by revert j;decide))).trans e0
  have e4':=(he 4 (fun j hj e=>absurd e.symm (by revert j;decide))).trans e4
  have:i=0∨i=1∨i=2∨i=3∨i=4∨i=5:=by omega
  rcases this with rfl|rfl|rfl|rfl|rfl|rfl
  ·obtain rfl:=so (show zju[0]? =some qyw from rfl) ho
   exact an (ax a w _ _ _ _ _ _ gb 0 _ _ _ _ eb' (c1.but (hdr hH) (by simp))) (hk _ _ (But.refl _ _) rfl)
  ·obtain rfl:=so (show zju[1]? =some qyv from rfl) ho
   exact an (bz a w _ _ _ _ _ _ _ e0') (hk _ _ (But.refl _ _) rfl)
  ·obtain rfl:=so (show zju[2]? =some qyu from rfl) ho
   exact an (bz a w _ _ _ _ _ _ _ e4') (hk _ _ (But.refl _ _) rfl)
  ·obtain rfl:=so (show zju[3]? =some qyt from rfl) ho
   exact an (zql a w _ _ _ _ _ _ _ b off n c k hkn hn (hD 1 (by simp)) (hD 2 (by simp))) (hk _ _ (But.refl _ _) rfl)
  ·obtain rfl:=so (show zju[4]? =some qys from rfl) ho
   exact an (ax a w _ _ _ _ _ _ b (off+k*4) _ _ _ _ (hD 3 (by simp)) (c2.but (hdr hH) (by simp))) (hk _ _ (But.refl _ _) rfl)
  ·obtain rfl:=so (show zju[5]? =some qyr from rfl) ho
   exact az (zde a w _ _ _ _ _ _ _ _ _ (hD 0 (by simp)) (hD 4 (by simp))) (R:=fun w' v=>aq w' v (f1+f2)∧But [] w w') (AD w (hdr hH)) (fun v w' hv=>hk v w' hv.2 hv.1)
 ·intro dn o a w K ho hall h hK
  obtain rfl:=so (show zju[6]? =some qyq from rfl) ho
  have eb':=(h.eval 3 (fun j hj e=>absurd e.symm (by revert j;decide))).trans eb
  have cl:aq w (a.eval (.tmp 15)) (f1+f2):=h.has 5 (by omega) (hall 5 (by omega))
  have cl':=cl
  obtain⟨x',y',p',ev,-⟩:=cl.agg
  rw[ev] at cl'
  have ea:=h.puts hT (fun i=>match i with
   | 0=>.agg #[.bool s1,.int .u64 x1,.int .u64 y1,.pointer p1]
   | 1=>.slice (some ⟨b,off,none⟩) n c
   | 2=>.int .i64 (k:Int)
   | 3=>.pointer (some ⟨b,off+k*4,none⟩)
   | 4=>.agg #[.bool s2,.int .u64 x2,.int .u64 y2,.pointer p2]
   | _=>.agg #[.bool (decide ((f1+f2).num<0)),.int .u64 x',.int .u64 y',.pointer p']) (fun i hi=>by
   have hc:=h.has i hi (hall i hi)
   have:i=0∨i=1∨i=2∨i=3∨i=4∨i=5:=by omega
   rcases this with rfl|rfl|rfl|rfl|rfl|rfl
   all_goals first | exact ev | exact hc|rfl)
  exact jo (kz a w _ _ _ _ _ gb _ x' y' p' eb' ev (cb.but (hdr h.mem) (by simp)) (fun j=>((hdr h.mem).frozen (p:=⟨gb,j,none⟩) lgb (by simp)).trans (fzb j))) (hK _ _ ⟨w,_,x',y',p',ea,rfl,hdr h.mem,cl'⟩)
 ·rintro a w ⟨w1,s',x',y',p',rfl,rfl,h1,h2⟩
  exact hQ  w1 s' x' y' p' h1 h2
def qyp:Oper:=⟨some 20,.move (.tmp 7),62, "credit.go:81",#[],none⟩
def qyo:Oper:=⟨some 21,.move (.tmp 8),3, "credit.go:81",#[],none⟩
def qyn:Oper:=⟨some 22,.load 27 (.tmp 4),27, "credit.go:81",#[],none⟩
def qym:Oper:=⟨some 23,.load 27 (.tmp 5),27, "credit.go:81",#[],none⟩
def qyl:Oper:=⟨some 24,.load 27 (.tmp 9),27, "credit.go:81",#[],none⟩
def qyk:Oper:=⟨some 25,.load 27 (.tmp 4),27, "credit.go:81",#[],none⟩
def qyj:Oper:=⟨some 26,.call { callee:=.value (.func 31),args:=#[.tmp 24,.tmp 25],argTypes:=#[27,27] },27, "credit.go:81",#[⟨4,.data⟩,⟨5,.data⟩],none⟩
def qyi:Oper:=⟨some 27,.call { callee:=.value (.func 56),args:=#[.tmp 23,.tmp 26],argTypes:=#[27,27] },27, "credit.go:81",#[⟨3,.data⟩,⟨6,.data⟩,⟨6,.chain⟩],none⟩
def qyh:Oper:=⟨some 28,.call { callee:=.value (.func 73),args:=#[.tmp 22,.tmp 27],argTypes:=#[27,27] },27, "credit.go:81",#[⟨2,.data⟩,⟨7,.data⟩,⟨7,.chain⟩],none⟩
def qyg:Oper:=⟨some 29,.indexAddr 62 (.tmp 20) (.tmp 21),0, "credit.go:81",#[⟨0,.data⟩,⟨1,.data⟩,⟨0,.phase⟩,⟨1,.phase⟩,⟨2,.phase⟩,⟨3,.phase⟩,⟨4,.phase⟩,⟨5,.phase⟩,⟨6,.phase⟩,⟨7,.phase⟩,⟨8,.phase⟩],none⟩
def qnh:Oper:=⟨none,.store 27 (.tmp 29) (.tmp 28),0, "credit.go:81",#[⟨9,.data⟩,⟨8,.data⟩,⟨8,.chain⟩,⟨0,.phase⟩,⟨1,.phase⟩,⟨2,.phase⟩,⟨3,.phase⟩,⟨4,.phase⟩,⟨5,.phase⟩,⟨6,.phase⟩,⟨7,.phase⟩,⟨8,.phase⟩],none⟩
def zfq:Array Oper:=#[qyp,qyo,qyn,qym,qyl,qyk,qyj,qyi,qyh,qyg,qnh]
def zlw (i:Nat):Nat:=match i with
 | 0=>20
 | 1=>21
 | 2=>22
 | 3=>23
 | 4=>24
 | 5=>25
 | 6=>26
 | 7=>27
 | 8=>28
 | _=>29
def zzt (gb:Nat) (go:Nat) (N:Nat) (ka:Nat) (s1:Bool) (x1:Int) (y1:Int) (p1:Option Addr) (s2:Bool) (x2:Int) (y2:Int) (p2:Option Addr) (s3:Bool) (x3:Int) (y3:Int) (p3:Option Addr) (f1:Rat) (f2:Rat) (f3:Rat) (i:Nat) (w:World) (v:Value):Prop:=match i with
 | 0=>v=.slice (some ⟨gb,0,none⟩) N N
 | 1=>v=.int .i64 (ka:Int)
 | 2=>v=.agg #[.bool s1,.int .u64 x1,.int .u64 y1,.pointer p1]
 | 3=>v=.agg #[.bool s2,.int .u64 x2,.int .u64 y2,.pointer p2]
 | 4=>v=.agg #[.bool s3,.int .u64 x3,.int .u64 y3,.pointer p3]
 | 5=>v=.agg #[.bool s1,.int .u64 x1,.int .u64 y1,.pointer p1]
 | 6=>aq w v (f3-f1)
 | 7=>aq w v (f2*(f3-f1))
 | 8=>aq w v (f1+f2*(f3-f1))
 | _=>v=.pointer (some ⟨gb,go,none⟩)
theorem qhz {gb:Nat} {go:Nat} {N:Nat} {ka:Nat} {s1:Bool} {x1:Int} {y1:Int} {p1:Option Addr} {s2:Bool} {x2:Int} {y2:Int} {p2:Option Addr} {s3:Bool} {x3:Int} {y3:Int} {p3:Option Addr} {f1:Rat} {f2:Rat} {f3:Rat} {i:Nat} {w w':World} {v:Value} (h:zzt gb go N ka s1 x1 y1 p1 s2 x2 y2 p2 s3 x3 y3 p3 f1 f2 f3 i w v) (hi:i<10) (hb:But [] w w'):zzt gb go N ka s1 x1 y1 p1 s2 x2 y2 p2 s3 x3 y3 p3 f1 f2 f3 i w' v:=by
 have:i=0∨i=1∨i=2∨i=3∨i=4∨i=5∨i=6∨i=7∨i=8∨i=9:=by omega
 rcases this with rfl|rfl|rfl|rfl|rfl|rfl|rfl|rfl|rfl|rfl
 all_goals first | exact h | exact aq.but h hb | exact au.but h hb
theorem qhy:∀ i j,i<10→j<10→zlw i=zlw j→i=j:=fun i j hi hj=>(by decide:∀ i,i<10→∀ j,j<10→zlw i=zlw j→i=j) i hi j hj
theorem zpb (id:Nat) (Q:Exit→Act→World→Prop) (base:Act) (W0:World) (gb:Nat) (go:Nat) (N:Nat) (ka:Nat) (s1:Bool) (x1:Int) (y1:Int) (p1:Option Addr) (s2:Bool) (x2:Int) (y2:Int) (p2:Option Addr) (s3:Bool) (x3:Int) (y3:Int) (p3:Option Addr) (f1:Rat) (f2:Rat) (f3:Rat) (g4 g5 g9:Nat) {sb:Bool} {xb yb:Int} {pb:Option Addr} (hs:29<base.tmps.size) (cb:P4o W0 gb go sb xb yb pb) (fzb:∀ j,W0.frozen? ⟨gb,j,none⟩=false) (e7:base.eval (.tmp 7)=.slice (some ⟨gb,0,none⟩) N N) (e8:base.eval (.tmp 8)=.int .i64 (ka:Int)) (e4:base.eval (.tmp 4)=.pointer (some ⟨g4,0,none⟩)) (e5:base.eval (.tmp 5)=.pointer (some ⟨g5,0,none⟩)) (e9:base.eval (.tmp 9)=.pointer (some ⟨g9,0,none⟩))
  (hgo:go=0+ka*4) (hka:ka<N) (hN2:N<1000000) (c1:P4 W0 g4 s1 x1 y1 p1) (c2:P4 W0 g5 s2 x2 y2 p2) (c3:P4 W0 g9 s3 x3 y3 p3)
  (SU:∀ w,But [] W0 w→Calls prog 31 #[.agg #[.bool s3,.int .u64 x3,.int .u64 y3,.pointer p3],.agg #[.bool s1,.int .u64 x1,.int .u64 y1,.pointer p1]] w fun e w'=>∃ v,e=.returned v∧aq w' v (f3-f1)∧But [] w w')
  (MU:∀ w,But [] W0 w→∀ v,aq w v (f3-f1)→Calls prog 56 #[.agg #[.bool s2,.int .u64 x2,.int .u64 y2,.pointer p2],v] w fun e w'=>∃ v,e=.returned v∧aq w' v (f2*(f3-f1))∧But [] w w')
  (AD:∀ w,But [] W0 w→∀ v,aq w v (f2*(f3-f1))→Calls prog 73 #[.agg #[.bool s1,.int .u64 x1,.int .u64 y1,.pointer p1],v] w fun e w'=>∃ v,e=.returned v∧aq w' v (f1+f2*(f3-f1))∧But [] w w')
  (hQ:∀ w1 v6 v7 s' x' y' p',But [] W0 w1→aq w1 (.agg #[.bool s',.int .u64 x',.int .u64 y',.pointer p']) (f1+f2*(f3-f1))→Q .normal (bk base [(20,.slice (some ⟨gb,0,none⟩) N N),(21,.int .i64 (ka:Int)),(22,.agg #[.bool s1,.int .u64 x1,.int .u64 y1,.pointer p1]),(23,.agg #[.bool s2,.int .u64 x2,.int .u64 y2,.pointer p2]),(24,.agg #[.bool s3,.int .u64 x3,.int .u64 y3,.pointer p3]),(25,.agg #[.bool s1,.int .u64 x1,.int .u64 y1,.pointer p1]),(26,v6),(27,v7),(28,(.agg #[.bool s',.int .u64 x',.int .u64 y',.pointer p'])),(29,.pointer (some ⟨gb,go,none⟩))]) (w1.setCells gb go [.bool s',.int .u64 x',.int .u64 y',.pointer p'])) :
  (Code.region id zfq true).wp prog Q base W0:=by
 have hdr:∀ {w},But [] W0.drew w→But [] W0 w:=fun h=>(But.refl _ _).drew.trans' h
 have lgb:gb<W0.heap.size:=ai cb.1
 have hT:∀ i,i<10→zlw i<base.tmps.size:=fun i hi=>by
  have h:zlw i≤29:=by revert i;decide
  omega
 refine l9 (by kernel_rfl) (xu (by kernel_rfl)) (fun i o ho=>(mo (ops:=zfq) (by kernel_rfl) i o ho).1)
  (fun _ w=>But [] W0.drew w) (zzt gb go N ka s1 x1 y1 p1 s2 x2 y2 p2 s3 x3 y3 p3 f1 f2 f3) zlw 10 rfl qhy hT (But.refl _ _)
  (fun i hi=>?_) ?_ (fun a w=>∃ w1 v6 v7 s' x' y' p',a=bk base [(20,.slice (some ⟨gb,0,none⟩) N N),(21,.int .i64 (ka:Int)),(22,.agg #[.bool s1,.int .u64 x1,.int .u64 y1,.pointer p1]),(23,.agg #[.bool s2,.int .u64 x2,.int .u64 y2,.pointer p2]),(24,.agg #[.bool s3,.int .u64 x3,.int .u64 y3,.pointer p3]),(25,.agg #[.bool s1,.int .u64 x1,.int .u64 y1,.pointer p1]),(26,v6),(27,v7),(28,(.agg #[.bool s',.int .u64 x',.int .u64 y',.pointer p'])),(29,.pointer (some ⟨gb,go,none⟩))]∧w=w1.setCells gb go [.bool s',.int .u64 x',.int .u64 y',.pointer p']∧But [] W0 w1∧aq w1 (.agg #[.bool s',.int .u64 x',.int .u64 y',.pointer p']) (f1+f2*(f3-f1))) ?_ ?_
 ·exact vv (ops:=zfq) (ps:=[(10,0),(10,1),(10,2),(10,3),(10,4),(10,5),(10,6),(10,7),(10,8),(10,9)]) (by kernel_rfl) 10 i (by
   have:i=0∨i=1∨i=2∨i=3∨i=4∨i=5∨i=6∨i=7∨i=8∨i=9:=by omega
   rcases this with rfl|rfl|rfl|rfl|rfl|rfl|rfl|rfl|rfl|rfl <;> simp)
 ·intro dn i o a w K hi ho hdi hH he hdep hK
  have hD:=fun j hj=>(j4 (ps:=[(6,4),(6,5),(7,3),(7,6),(8,2),(8,7),(9,0),(9,1),(9,2),(9,3),(9,4),(9,5),(9,6),(9,7),(9,8)]) (by kernel_rfl) ho (fun j=>dn j=true∧zzt gb go N ka s1 x1 y1 p1 s2 x2 y2 p2 s3 x3 y3 p3 f1 f2 f3 j w (a.eval (.tmp (zlw j)))) hdep j hj).2
  have hk:∀ v w',But [] w w'→zzt gb go N ka s1 x1 y1 p1 s2 x2 y2 p2 s3 x3 y3 p3 f1 f2 f3 i w' v→K (a.put (some (zlw i)) v) w':=fun v w' hb hv=>hK v w' (hH.trans' hb) (fun j hj _ u hu=>qhz hu hj hb) hv
  have e7':=(he 7 (fun j hj e=>absurd e.symm (by revert j;decide))).trans e7
  have e8':=(he 8 (fun j hj e=>absurd e.symm (by revert j;decide))).trans e8
  have e4':=(he 4 (fun j hj e=>absurd e.symm (by revert j;decide))).trans e4
  have e5':=(he 5 (fun j hj e=>absurd e.symm (by revert j;decide))).trans e5
  have e9':=(he 9 (fun j hj e=>absurd e.symm (by revert j;decide))).trans e9
  have:i=0∨i=1∨i=2∨i=3∨i=4∨i=5∨i=6∨i=7∨i=8∨i=9:=by omega
  rcases this with rfl|rfl|rfl|rfl|rfl|rfl|rfl|rfl|rfl|rfl
  ·obtain rfl:=so (show zfq[0]? =some qyp from rfl) ho
   exact an (bz a w _ _ _ _ _ _ _ e7') (hk _ _ (But.refl _ _) rfl)
  ·obtain rfl:=so (show zfq[1]? =some qyo from rfl) ho
   exact an (bz a w _ _ _ _ _ _ _ e8') (hk _ _ (But.refl _ _) rfl)
  ·obtain rfl:=so (show zfq[2]? =some qyn from rfl) ho
   exact an (ax a w _ _ _ _ _ _ g4 0 _ _ _ _ e4' (c1.but (hdr hH) (by simp))) (hk _ _ (But.refl _ _) rfl)
  ·obtain rfl:=so (show zfq[3]? =some qym from rfl) ho
   exact an (ax a w _ _ _ _ _ _ g5 0 _ _ _ _ e5' (c2.but (hdr hH) (by simp))) (hk _ _ (But.refl _ _) rfl)
  ·obtain rfl:=so (show zfq[4]? =some qyl from rfl) ho
   exact an (ax a w _ _ _ _ _ _ g9 0 _ _ _ _ e9' (c3.but (hdr hH) (by simp))) (hk _ _ (But.refl _ _) rfl)
  ·obtain rfl:=so (show zfq[5]? =some qyk from rfl) ho
   exact an (ax a w _ _ _ _ _ _ g4 0 _ _ _ _ e4' (c1.but (hdr hH) (by simp))) (hk _ _ (But.refl _ _) rfl)
  ·obtain rfl:=so (show zfq[6]? =some qyj from rfl) ho
   exact az (zga a w _ _ _ _ _ _ _ _ _ (hD 4 (by simp)) (hD 5 (by simp))) (R:=fun w' v=>aq w' v (f3-f1)∧But [] w w') (SU w (hdr hH)) (fun v w' hv=>hk v w' hv.2 hv.1)
  ·obtain rfl:=so (show zfq[7]? =some qyi from rfl) ho
   exact az (zeq a w _ _ _ _ _ _ _ _ _ (hD 3 (by simp)) rfl) (R:=fun w' v=>aq w' v (f2*(f3-f1))∧But [] w w') (MU w (hdr hH) _ (hD 6 (by simp))) (fun v w' hv=>hk v w' hv.2 hv.1)
  ·obtain rfl:=so (show zfq[8]? =some qyh from rfl) ho
   exact az (zde a w _ _ _ _ _ _ _ _ _ (hD 2 (by simp)) rfl) (R:=fun w' v=>aq w' v (f1+f2*(f3-f1))∧But [] w w') (AD w (hdr hH) _ (hD 7 (by simp))) (fun v w' hv=>hk v w' hv.2 hv.1)
  ·obtain rfl:=so (show zfq[9]? =some qyg from rfl) ho
   refine an (zql a w _ _ _ _ _ _ _ gb 0 N N ka hka hN2 (hD 0 (by simp)) (hD 1 (by simp))) (hk _ _ (But.refl _ _) ?_)
   show Value.pointer _=Value.pointer _
   rw[hgo]
 ·intro dn o a w K ho hall h hK
  obtain rfl:=so (show zfq[10]? =some qnh from rfl) ho
  have eb':a.eval (.tmp 29)=.pointer (some ⟨gb,go,none⟩):=h.has 9 (by omega) (hall 9 (by omega))
  have cl:aq w (a.eval (.tmp 28)) (f1+f2*(f3-f1)):=h.has 8 (by omega) (hall 8 (by omega))
  have cl':=cl
  obtain⟨x',y',p',ev,-⟩:=cl.agg
  rw[ev] at cl'
  have ea:=h.puts hT (fun i=>match i with
   | 0=>.slice (some ⟨gb,0,none⟩) N N
   | 1=>.int .i64 (ka:Int)
   | 2=>.agg #[.bool s1,.int .u64 x1,.int .u64 y1,.pointer p1]
   | 3=>.agg #[.bool s2,.int .u64 x2,.int .u64 y2,.pointer p2]
   | 4=>.agg #[.bool s3,.int .u64 x3,.int .u64 y3,.pointer p3]
   | 5=>.agg #[.bool s1,.int .u64 x1,.int .u64 y1,.pointer p1]
   | 6=>a.eval (.tmp 26)
   | 7=>a.eval (.tmp 27)
   | 8=>.agg #[.bool (decide ((f1+f2*(f3-f1)).num<0)),.int .u64 x',.int .u64 y',.pointer p']
   | _=>.pointer (some ⟨gb,go,none⟩)) (fun i hi=>by
   have hc:=h.has i hi (hall i hi)
   have:i=0∨i=1∨i=2∨i=3∨i=4∨i=5∨i=6∨i=7∨i=8∨i=9:=by omega
   rcases this with rfl|rfl|rfl|rfl|rfl|rfl|rfl|rfl|rfl|rfl
   all_goals first | exact ev | exact hc|rfl)
  exact jo (zyj a w _ _ _ _ _ gb go _ x' y' p' eb' ev (cb.but (hdr h.mem) (by simp)) (fun j=>((hdr h.mem).frozen (p:=⟨gb,j,none⟩) lgb (by simp)).trans (fzb j))) (hK _ _ ⟨w,a.eval (.tmp 26),a.eval (.tmp 27),_,x',y',p',ea,rfl,hdr h.mem,cl'⟩)
 ·rintro a w ⟨w1,v6,v7,s',x',y',p',rfl,rfl,h1,h2⟩
  exact hQ  w1 v6 v7 s' x' y' p' h1 h2
theorem zbw (n:Nat) (h:1≤n):Len 0 n:=⟨Nat.le_trans (aj (by omega) _ 1 (by decide)) h,Nat.le_trans (aj (by omega) _ 1 (by decide)) h⟩
def atR (fs:List Rat) (k:Nat):Rat:=fs[k]?.getD 0
def zha (x:Rat):Rat:=if 0≤x then x else 0
theorem zku (f g:Nat→Rat):∀ n,sgR (fun k=>f k-g k) n=sgR f n-sgR g n
 | 0=>by
  show (0:Rat)=0-0
  grind
 | n+1=>by
  show sgR _ n+(f n-g n)=sgR f n+f n-(sgR g n+g n)
  rw[zku f g n];grind
theorem zax (v:Value) (f:Rat) (w:World) (hf:aq w v f) (lf:Len f 1000000) :
  Calls prog 117 #[v] w fun e w'=>∃ v',e=.returned v'∧aq w' v' (f*f)∧But [] w w':=by
 have MU:=af (fun W (h:But [] w W)=>dh v v f f W (hf.but h) (hf.but h) lf lf)
 obtain⟨x1,y1,p1,rfl,-⟩:=id hf.agg
 generalize decide (f.num<0)=s1 at *
 generalize hgf:f*f=ff at *
 clear hf lf hgf
 obtain⟨A0,hA0⟩:∃ A0,A0=w.alloc (.cells #[.bool s1,.int .u64 x1,.int .u64 y1,.pointer p1] 27):=⟨_,rfl⟩
 obtain⟨W,hW⟩:∃ W,W=A0.alloc (.cells #[.bool false,.int .u64 0,.int .u64 0,.pointer none] 27):=⟨_,rfl⟩
 have sA0:A0.heap.size=w.heap.size+1:=by rw[hA0];simp
 have bA0:But [] w A0:=by rw[hA0];exact (But.refl _ _).alloc _
 have bW:But [] A0 W:=by rw[hW];exact (But.refl _ _).alloc _
 have kA0:P4 A0 (w.heap.size) s1 x1 y1 p1:=by
  rw[hA0];exact⟨by simp,by simp,by simp,by simp⟩
 have K1:=af (kA0.but bW (by simp))
 have xR:bh W (w.heap.size+1) 0:=by
  rw[hW,← sA0]
  exact bh.new A0 false 0 0 none 0 27 (jb _)
 have BW:=af ((bA0).trans' bW)
 have XR:=af xR
 clear bA0 kA0 bW xR
 go_enter func117,ntmps117
 go_wp2_with fail
 rw[← hA0,← hW]
 refine (ae MU _ (ae BW)).mono ?_
 rintro e w1 ⟨v1,rfl,hf1,hb1⟩
 have B1:=af ((ae BW).trans' hb1)
 have X1:=af ((ae XR).but hb1)
 obtain⟨x2,y2,p2,rfl,-⟩:=id hf1.agg
 generalize decide (ff.num<0)=s2 at *
 have HF1:=af hf1
 clear hb1 hf1 BW XR K1 MU
 clear hA0 sA0 hW
 generalize hg1:w.heap.size+1=g1 at *
 generalize hg0:w.heap.size=g0 at *
 obtain⟨⟨t3,a3,b3,q3,⟨c0,c1,c2,c3⟩,-⟩,z3⟩:=ae X1
 have P2:Hid (P4 w1 g1 t3 a3 b3 q3):=⟨c0,c1,c2,c3⟩
 go_wp2
 have hP:=ay w1 g1 s2 x2 y2 p2
 obtain⟨m0,m1,m2,m3⟩:=jl w1 g1 s2 x2 y2 p2 (ae P2)
 have hF:But [] w (zy w1 g1 s2 x2 y2 p2):=(ae B1).trans hP (fun x hx=>by simp at hx;subst hx;exact .inr (by omega))
 have hff:=(ae HF1).over ((ae P2)).1 hP
 change bodyPost _ _ _ _ _ (zy w1 g1 s2 x2 y2 p2)
 generalize zy w1 g1 s2 x2 y2 p2=F at *
 exact bodyPost_ret (v:=.agg #[.bool s2,.int .u64 x2,.int .u64 y2,.pointer p2]) (by simp[results,results117,go_sem,m0,m1,m2,m3]) rfl ⟨_,rfl,hff,hF⟩
theorem zac (v:Value) (f:Rat) (n:Int) (w:World) (hf:aq w v f) (lf:Len f 1000000) (hn1:1≤n) (hn2:n≤100000) :
  Calls prog 63 #[v,.int .i64 n] w fun e w'=>∃ v',e=.returned v'∧aq w' v' (f/((n:Int):Rat))∧But [] w w':=by
 obtain⟨ws,wx,FW,CW⟩:=zel n (by omega) (by omega)
 have hn0:(((n:Int):Rat)).num≠0:=by rw[(bp n).1];omega
 have DI:=af (fun W (h:But [] w W)=>zft v _ f ((n:Int):Rat) W (hf.but h) (FW W) lf ((kr n (by omega)).mono (by omega)) hn0)
 have HCW:=af CW
 obtain⟨x1,y1,p1,rfl,-⟩:=id hf.agg
 generalize decide (f.num<0)=s1 at *
 generalize hgf:f/((n:Int):Rat)=ff at *
 clear hf lf hgf hn0 FW CW
 obtain⟨A0,hA0⟩:∃ A0,A0=w.alloc (.cells #[.bool s1,.int .u64 x1,.int .u64 y1,.pointer p1] 27):=⟨_,rfl⟩
 obtain⟨W,hW⟩:∃ W,W=A0.alloc (.cells #[.bool false,.int .u64 0,.int .u64 0,.pointer none] 27):=⟨_,rfl⟩
 have sA0:A0.heap.size=w.heap.size+1:=by rw[hA0];simp
 have bA0:But [] w A0:=by rw[hA0];exact (But.refl _ _).alloc _
 have bW:But [] A0 W:=by rw[hW];exact (But.refl _ _).alloc _
 have kA0:P4 A0 (w.heap.size) s1 x1 y1 p1:=by
  rw[hA0];exact⟨by simp,by simp,by simp,by simp⟩
 have K1:=af (kA0.but bW (by simp))
 have xR:bh W (w.heap.size+1) 0:=by
  rw[hW,← sA0]
  exact bh.new A0 false 0 0 none 0 27 (jb _)
 have BW:=af ((bA0).trans' bW)
 have XR:=af xR
 clear bA0 kA0 bW xR
 go_enter func63,ntmps63
 go_wp2
 rw[← hA0,← hW]
 clear hA0 sA0 hW
 generalize hg1:w.heap.size+1=g1 at *
 generalize hg0:w.heap.size=g0 at *
 refine zik 1 _ _ W W.heap.size n s1 x1 y1 p1 ws wx ff (by simp) g0 rfl (by simp[Act.eval]) (by simp[Act.eval]) (ae K1) (ae HCW) (fun W hb=>ae DI W ((ae BW).trans' hb)) ?_
 intro w1 bn v3 v4 v5 v8 s2 x2 y2 p2 hb1 hBn hp1 hf1
 simp only[bk,List.foldl_cons,List.foldl_nil,Act.put,List.setIfInBounds_toArray,List.set_cons_zero,List.set_cons_succ]
 have B1:=af ((ae BW).trans' hb1)
 have X1:=af ((ae XR).but hb1)
 have HF1:=af hf1
 obtain⟨d0,d1,d2,d3⟩:=hp1
 clear hb1 hf1 BW XR K1 DI HCW hBn
 obtain⟨⟨t3,a3,b3,q3,⟨c0,c1,c2,c3⟩,-⟩,z3⟩:=ae X1
 have P2:Hid (P4 w1 g1 t3 a3 b3 q3):=⟨c0,c1,c2,c3⟩
 go_wp2
 have hP:=ay w1 g1 s2 x2 y2 p2
 obtain⟨m0,m1,m2,m3⟩:=jl w1 g1 s2 x2 y2 p2 (ae P2)
 have hF:But [] w (zy w1 g1 s2 x2 y2 p2):=(ae B1).trans hP (fun x hx=>by simp at hx;subst hx;exact .inr (by omega))
 have hff:=(ae HF1).over ((ae P2)).1 hP
 change bodyPost _ _ _ _ _ (zy w1 g1 s2 x2 y2 p2)
 generalize zy w1 g1 s2 x2 y2 p2=F at *
 exact bodyPost_ret (v:=.agg #[.bool s2,.int .u64 x2,.int .u64 y2,.pointer p2]) (by simp[results,results63,go_sem,m0,m1,m2,m3]) rfl ⟨_,rfl,hff,hF⟩
theorem qdh (v:Value) (f:Rat) (w:World) (hf:aq w v f) :
  Calls prog 64 #[v] w fun e w'=>∃ v',e=.returned v'∧aq w' v' (zha f)∧But [] w w':=by
 have SG:=af (fun W (h:But [] w W)=>j6 v f W (hf.but h))
 have HF:=af hf
 obtain⟨x1,y1,p1,rfl,-⟩:=id hf.agg
 generalize decide (f.num<0)=s1 at *
 obtain⟨sg,hsg⟩:∃ sg,sg=f.num.sign:=⟨_,rfl⟩
 rw[← hsg] at SG
 obtain⟨M,hM⟩:∃ M,M=zha f:=⟨_,rfl⟩
 have HS:Hid ((sg<0→M=0)∧(¬ sg<0→M=f)):=by
  have h1:0≤f.num↔0≤f:=Rat.num_nonneg
  have h2:sg<0↔f.num<0:=by rw[hsg];exact Int.sign_neg_iff
  rw[hM]
  unfold zha
  refine⟨fun h=>?_,fun h=>?_⟩
  ·rw[if_neg (fun hh=>by have:=h1.2 hh;have:=h2.1 h;omega)]
  ·rw[if_pos (h1.1 (by have:¬ f.num<0:=fun hh=>h (h2.2 hh);omega))]
 rw[← hM]
 clear hf hsg hM
 obtain⟨A0,hA0⟩:∃ A0,A0=w.alloc (.cells #[.bool s1,.int .u64 x1,.int .u64 y1,.pointer p1] 27):=⟨_,rfl⟩
 obtain⟨W,hW⟩:∃ W,W=A0.alloc (.cells #[.bool false,.int .u64 0,.int .u64 0,.pointer none] 27):=⟨_,rfl⟩
 have sA0:A0.heap.size=w.heap.size+1:=by rw[hA0];simp
 have bA0:But [] w A0:=by rw[hA0];exact (But.refl _ _).alloc _
 have bW:But [] A0 W:=by rw[hW];exact (But.refl _ _).alloc _
 have kA0:P4 A0 (w.heap.size) s1 x1 y1 p1:=by
  rw[hA0];exact⟨by simp,by simp,by simp,by simp⟩
 have K1:=af (kA0.but bW (by simp))
 have xR:bh W (w.heap.size+1) 0:=by
  rw[hW,← sA0]
  exact bh.new A0 false 0 0 none 0 27 (jb _)
 have BW:=af ((bA0).trans' bW)
 have XR:=af xR
 clear bA0 kA0 bW xR
 go_enter func64,ntmps64
 go_wp2_with fail
 rw[← hA0,← hW]
 refine (ae SG _ (ae BW)).mono ?_
 rintro e w1 ⟨rfl,hb1⟩
 have B1:=af ((ae BW).trans' hb1)
 have X1:=af ((ae XR).but hb1)
 have K11:=af ((ae K1).but hb1 (by simp))
 clear hb1 BW XR K1 SG
 clear hA0 sA0 hW
 generalize hg1:w.heap.size+1=g1 at *
 generalize hg0:w.heap.size=g0 at *
 obtain⟨⟨t3,a3,b3,q3,⟨c0,c1,c2,c3⟩,-⟩,z3⟩:=ae X1
 have P2:Hid (P4 w1 g1 t3 a3 b3 q3):=⟨c0,c1,c2,c3⟩
 by_cases hlt:sg<0
 ·obtain rfl:=(ae HS).1 hlt
  clear HS
  go_wp2
  have hP:=ay w1 g1 false 0 0 none
  obtain⟨m0,m1,m2,m3⟩:=jl w1 g1 false 0 0 none (ae P2)
  have hF:But [] w (zy w1 g1 false 0 0 none):=(ae B1).trans hP (fun x hx=>by simp at hx;subst hx;exact .inr (by omega))
  have hff:=(jb w1).over ((ae P2)).1 hP
  change bodyPost _ _ _ _ _ (zy w1 g1 false 0 0 none)
  generalize zy w1 g1 false 0 0 none=F at *
  exact bodyPost_ret (v:=.agg #[.bool false,.int .u64 0,.int .u64 0,.pointer none]) (by simp[results,results64,go_sem,m0,m1,m2,m3]) rfl ⟨_,rfl,hff,hF⟩
 ·obtain rfl:=(ae HS).2 (by omega)
  clear HS
  obtain⟨e0,e1,e2,e3⟩:=ae K11
  go_wp2
  have hP:=ay w1 g1 s1 x1 y1 p1
  obtain⟨m0,m1,m2,m3⟩:=jl w1 g1 s1 x1 y1 p1 (ae P2)
  have hF:But [] w (zy w1 g1 s1 x1 y1 p1):=(ae B1).trans hP (fun x hx=>by simp at hx;subst hx;exact .inr (by omega))
  have hff:=((ae HF).but (ae B1)).over ((ae P2)).1 hP
  change bodyPost _ _ _ _ _ (zy w1 g1 s1 x1 y1 p1)
  generalize zy w1 g1 s1 x1 y1 p1=F at *
  exact bodyPost_ret (v:=.agg #[.bool s1,.int .u64 x1,.int .u64 y1,.pointer p1]) (by simp[results,results64,go_sem,m0,m1,m2,m3]) rfl ⟨_,rfl,hff,hF⟩
def zaz (b d:Rat):Rat:=if b.num=0 then 0 else b/(b+d)
theorem zim (va vb:Value) (b c:Rat) (w:World) (ha:aq w va b) (hb:aq w vb c) (la:Len b 200000) (lb:Len c 200000) (hne:b.num≠0→(b+c).num≠0) :
  Calls prog 54 #[va,vb] w fun e w'=>∃ v',e=.returned v'∧aq w' v' (zaz b c)∧But [] w w':=by
 have SG:=af (fun W (h:But [] w W)=>j6 va b W (ha.but h))
 have AD:=af (fun W (h:But [] w W)=>zaa va vb b c W (ha.but h) (hb.but h) (la.mono (by omega)) (lb.mono (by omega)))
 have DI:Hid (b.num≠0→∀ W v,But [] w W→aq W v (b+c)→Calls prog 119 #[va,v] W fun e w'=>∃ v,e=.returned (.tuple #[v,.nilIface])∧aq w' v (b/(b+c))∧But [] W w'):=fun h0 W v h hv=>zft va v b (b+c) W (ha.but h) hv (la.mono (by omega)) (mi la lb 1000000 (by omega)) (hne h0)
 obtain⟨x1,y1,p1,rfl,-⟩:=id ha.agg
 generalize decide (b.num<0)=s1 at *
 obtain⟨x2,y2,p2,rfl,-⟩:=id hb.agg
 generalize decide (c.num<0)=s2 at *
 obtain⟨sg,hsg⟩:∃ sg,sg=b.num.sign:=⟨_,rfl⟩
 rw[← hsg] at SG
 have HS:Hid (sg=0↔b.num=0):=by show _↔_;rw[hsg];exact Int.sign_eq_zero_iff_zero
 obtain⟨M,hM⟩:∃ M,M=zaz b c:=⟨_,rfl⟩
 have HM:Hid ((b.num=0→M=0)∧(b.num≠0→M=b/(b+c))):=by
  rw[hM]
  unfold zaz
  exact⟨fun h=>by rw[if_pos h],fun h=>by rw[if_neg h]⟩
 rw[← hM]
 clear ha hb hsg la lb hne hM
 obtain⟨A0,hA0⟩:∃ A0,A0=w.alloc (.cells #[.bool s1,.int .u64 x1,.int .u64 y1,.pointer p1] 27):=⟨_,rfl⟩
 obtain⟨A1,hA1⟩:∃ A1,A1=A0.alloc (.cells #[.bool s2,.int .u64 x2,.int .u64 y2,.pointer p2] 27):=⟨_,rfl⟩
 obtain⟨W,hW⟩:∃ W,W=A1.alloc (.cells #[.bool false,.int .u64 0,.int .u64 0,.pointer none] 27):=⟨_,rfl⟩
 have sA0:A0.heap.size=w.heap.size+1:=by rw[hA0];simp
 have bA0:But [] w A0:=by rw[hA0];exact (But.refl _ _).alloc _
 have sA1:A1.heap.size=w.heap.size+2:=by rw[hA1];simp;omega
 have bA1:But [] A0 A1:=by rw[hA1];exact (But.refl _ _).alloc _
 have bW:But [] A1 W:=by rw[hW];exact (But.refl _ _).alloc _
 have kA0:P4 A0 (w.heap.size) s1 x1 y1 p1:=by
  rw[hA0];exact⟨by simp,by simp,by simp,by simp⟩
 have K1:=af ((kA0.but bA1 (by simp)).but bW (by simp))
 have kA1:P4 A1 (w.heap.size+1) s2 x2 y2 p2:=by
  rw[← sA0]
  rw[hA1];exact⟨by simp,by simp,by simp,by simp⟩
 have K2:=af (kA1.but bW (by simp))
 have xR:bh W (w.heap.size+2) 0:=by
  rw[hW,← sA1]
  exact bh.new A1 false 0 0 none 0 27 (jb _)
 have BW:=af (((bA0).trans' bA1).trans' bW)
 have XR:=af xR
 clear bA0 kA0 bA1 kA1 bW xR
 go_enter func54,ntmps54
 go_wp2_with fail
 rw[← hA0,← hA1,← hW]
 refine (ae SG _ (ae BW)).mono ?_
 rintro e w1 ⟨rfl,hb1⟩
 have B1:=af ((ae BW).trans' hb1)
 have X1:=af ((ae XR).but hb1)
 have K11:=af ((ae K1).but hb1 (by simp))
 have K21:=af ((ae K2).but hb1 (by simp))
 clear hb1 BW XR K1 K2 SG
 clear hA0 sA0 hA1 sA1 hW
 generalize hg2:w.heap.size+2=g2 at *
 generalize hg1:w.heap.size+1=g1 at *
 generalize hg0:w.heap.size=g0 at *
 by_cases hz:sg=0
 ·obtain rfl:=(ae HM).1 ((ae HS).1 hz)
  clear HM HS
  obtain⟨⟨t3,a3,b3,q3,⟨c0,c1,c2,c3⟩,-⟩,z3⟩:=ae X1
  have P2:Hid (P4 w1 g2 t3 a3 b3 q3):=⟨c0,c1,c2,c3⟩
  subst hz
  go_wp2
  have hP:=ay w1 g2 false 0 0 none
  obtain⟨m0,m1,m2,m3⟩:=jl w1 g2 false 0 0 none (ae P2)
  have hF:But [] w (zy w1 g2 false 0 0 none):=(ae B1).trans hP (fun x hx=>by simp at hx;subst hx;exact .inr (by omega))
  have hff:=(jb w1).over ((ae P2)).1 hP
  change bodyPost _ _ _ _ _ (zy w1 g2 false 0 0 none)
  generalize zy w1 g2 false 0 0 none=F at *
  exact bodyPost_ret (v:=.agg #[.bool false,.int .u64 0,.int .u64 0,.pointer none]) (by simp[results,results54,go_sem,m0,m1,m2,m3]) rfl ⟨_,rfl,hff,hF⟩
 ·have hbz:b.num≠0:=fun h=>hz ((ae HS).2 h)
  have hm:=(ae HM).2 hbz
  have DI2:=af (ae DI hbz)
  rw[← hm] at DI2
  have HMM:=af hm
  clear DI hm HM HS
  go_wp2
  refine zkf 3 _ _ w1 w1.heap.size s1 x1 y1 p1 s2 x2 y2 p2 b c (by simp) g0 g1 rfl (by simp[Act.eval]) (by simp[Act.eval]) (ae K11) (ae K21) (fun W hb=>ae AD W ((ae B1).trans' hb)) (fun W hb v hv=>by rw[← ae HMM];exact ae DI2 W v ((ae B1).trans' hb) hv) ?_
  intro w2 bn v3 v4 v5 v6 v9 s4 x4 y4 p4 hb2 hBn hp2 hf2
  simp only[bk,List.foldl_cons,List.foldl_nil,Act.put,List.setIfInBounds_toArray,List.set_cons_zero,List.set_cons_succ]
  have B2:=af ((ae B1).trans' hb2)
  have X2:=af ((ae X1).but hb2)
  rw[← ae HMM] at hf2
  have HF2:=af hf2
  obtain⟨d0,d1,d2,d3⟩:=hp2
  clear hb2 hf2 B1 X1 K11 K21 AD DI2 hBn
  obtain⟨⟨t3,a3,b3,q3,⟨c0,c1,c2,c3⟩,-⟩,z3⟩:=ae X2
  have P2:Hid (P4 w2 g2 t3 a3 b3 q3):=⟨c0,c1,c2,c3⟩
  go_wp2
  have hP:=ay w2 g2 s4 x4 y4 p4
  obtain⟨m0,m1,m2,m3⟩:=jl w2 g2 s4 x4 y4 p4 (ae P2)
  have hF:But [] w (zy w2 g2 s4 x4 y4 p4):=(ae B2).trans hP (fun x hx=>by simp at hx;subst hx;exact .inr (by omega))
  have hff:=(ae HF2).over ((ae P2)).1 hP
  change bodyPost _ _ _ _ _ (zy w2 g2 s4 x4 y4 p4)
  generalize zy w2 g2 s4 x4 y4 p4=F at *
  exact bodyPost_ret (v:=.agg #[.bool s4,.int .u64 x4,.int .u64 y4,.pointer p4]) (by simp[results,results54,go_sem,m0,m1,m2,m3]) rfl ⟨_,rfl,hff,hF⟩
theorem zmq (b off cap n:Nat) (fs:List Rat) (w:World) (hv:au w (.slice (some ⟨b,off,none⟩) n cap) fs) (hn:n≤1000) (lf:∀ k,k<n→Len (atR fs k) 400000) (ls:∀ k,k≤n→Len (sgR (atR fs) k) 400000) :
  Calls prog 127 #[.slice (some ⟨b,off,none⟩) n cap] w fun e w'=>∃ v,e=.returned v∧aq w' v (sgR (atR fs) n)∧But [] w w':=by
 have HV:=af hv
 have LF:=af lf
 have LS:=af ls
 obtain⟨A,hA⟩:∃ A,A=w.alloc (.cells #[.bool false,.int .u64 0,.int .u64 0,.pointer none] 27):=⟨_,rfl⟩
 obtain⟨W,hW⟩:∃ W,W=A.alloc (.cells #[.bool false,.int .u64 0,.int .u64 0,.pointer none] 27):=⟨_,rfl⟩
 have sA:A.heap.size=w.heap.size+1:=by rw[hA];simp
 have bA:But [] w A:=by rw[hA];exact (But.refl _ _).alloc _
 have bW:But [] A W:=by rw[hW];exact (But.refl _ _).alloc _
 have x2:bh W w.heap.size 0:=by
  have h:=bh.new w false 0 0 none 0 27 (jb _)
  rw[← hA] at h
  exact h.but bW
 have x3:bh W (w.heap.size+1) 0:=by
  rw[hW,← sA]
  exact bh.new A false 0 0 none 0 27 (jb _)
 have X2:=af x2
 have X3:=af x3
 have BW:=af (bA.trans' bW)
 clear hv lf ls x2 x3 bA bW
 go_enter func127,ntmps127
 go_wp2
 rw[← hA,← hW]
 clear hA hW sA
 generalize hg3:w.heap.size+1=g3 at *
 generalize hg2:w.heap.size=g2 at *
 go_loopw [7] (fun iv wr=>∃ k:Nat,k≤n∧iv=.int .i64 (k:Int)∧Hid (bh wr g3 (sgR (atR fs) k)∧bh wr g2 0∧But [] w wr)) (fun iv _=>n-(intOf iv).toNat)
 case atStart=>exact⟨0,Nat.zero_le _,rfl,ae X3,ae X2,ae BW⟩
 case round =>
  obtain⟨k,hk,rfl,HI⟩:=hrel
  rename World=>wr
  clear X2 X3 BW
  by_cases hlt:k<n
  ·obtain⟨h3,h2,hbw⟩:=ae HI
   obtain⟨sr,xr,yr,pr,cr,hfr⟩:=((ae HV).but hbw).get k hlt
   obtain⟨⟨t5,a5,b5,q5,c5,hf5⟩,z5⟩:=id h3
   have D3:=af h3
   have D2:=af h2
   have DB:=af hbw
   have l1:=ae LF k hlt
   have l2:=ae LS k hk
   clear h3 h2 hbw HI
   go_wp2
   refine zvk 5 _ _ wr t5 a5 b5 q5 sr xr yr pr b off n cap k _ _ g3 (by simp) (by simp[Act.eval]) c5 z5 (by simp[Act.eval]) (by simp[Act.eval]) hlt (by omega) c5 cr (fun w' hb=>zaa _ _ _ _ w' (hf5.but hb) (hfr.but hb) (l2.mono (by omega)) (Len.mono (f:=atR fs k) l1 (by omega))) ?_
   intro w7 s7 x7 y7 p7 hb7 hfz
   simp only[bk,List.foldl_cons,List.foldl_nil,Act.put,List.setIfInBounds_toArray,List.set_cons_zero,List.set_cons_succ]
   change aq w7 _ (sgR (atR fs) (k+1)) at hfz
   have hP:=ay w7 g3 s7 x7 y7 p7
   have J3:=af (((ae D3).but hb7).put hfz)
   have J2:=af (((ae D2).but hb7).beside hP (by simp;omega) (fun g hg=>by simp at hg;subst hg;exact ((ae D3).but hb7).bool))
   have JB:=af (((ae DB).trans' hb7).trans hP (fun x hx=>by simp at hx;subst hx;exact .inr (by omega)))
   generalize zy w7 g3 s7 x7 y7 p7=V7 at *
   clear hP hfz hb7 D3 D2 DB c5 cr hf5 hfr z5 l1 l2
   go_wp2
   exact⟨⟨k+1,by omega,by go_num,ae J3,ae J2,ae JB⟩,by simp[intOf];omega⟩
  ·obtain rfl:k=n:=by omega
   obtain⟨⟨⟨t6,a6,b6,q6,⟨d0,d1,d2,d3⟩,hf6⟩,z6⟩,⟨⟨t2,a2,b2,q2,⟨c0,c1,c2,c3⟩,-⟩,z2⟩,hbw⟩:=ae HI
   have HF6:=af hf6
   have HBW:=af hbw
   have P2:Hid (P4 wr g2 t2 a2 b2 q2):=⟨c0,c1,c2,c3⟩
   clear HI hf6 hbw
   go_wp2
   have hP:=ay wr g2 t6 a6 b6 q6
   obtain⟨m0,m1,m2,m3⟩:=jl wr g2 t6 a6 b6 q6 (ae P2)
   have hF:But [] w (zy wr g2 t6 a6 b6 q6):=(ae HBW).trans hP (fun x hx=>by simp at hx;subst hx;exact .inr (by omega))
   have hff:=(ae HF6).over ((ae P2)).1 hP
   change bodyPost _ _ _ _ _ (zy wr g2 t6 a6 b6 q6)
   generalize zy wr g2 t6 a6 b6 q6=F at *
   exact bodyPost_ret (v:=.agg #[.bool t6,.int .u64 a6,.int .u64 b6,.pointer q6]) (by simp[results,results127,go_sem,m0,m1,m2,m3]) rfl ⟨_,rfl,hff,hF⟩
theorem zfc (b off cap n:Nat) (fs:List Rat) (w:World) (hv:au w (.slice (some ⟨b,off,none⟩) n cap) fs) (hn0:0<n) (hn:n≤1000) (lf:∀ k,k<n→Len (atR fs k) 400000) (ls:∀ k,k≤n→Len (sgR (atR fs) k) 400000) :
  Calls prog 61 #[.slice (some ⟨b,off,none⟩) n cap] w fun e w'=>∃ v,e=.returned v∧aq w' v (sgR (atR fs) n/(((n:Nat):Int):Rat))∧But [] w w':=by
 have TO:=af (fun W (h:But [] w W)=>zmq b off cap n fs W (hv.but h) hn lf ls)
 have QU:=af (fun W v (h:aq W v (sgR (atR fs) n))=>zac v _ (n:Int) W h ((ls n (Nat.le_refl _)).mono (by omega)) (by omega) (by omega))
 generalize sgR (atR fs) n=S at *
 generalize S/(((n:Nat):Int):Rat)=M at *
 have x2:=bh.new w false 0 0 none 0 27 (jb _)
 have bA:But [] w (w.alloc (.cells #[.bool false,.int .u64 0,.int .u64 0,.pointer none] 27)):=(But.refl _ _).alloc _
 have X2:=af x2
 have BA:=af bA
 have Q2:Hid (w.heap.size≤w.heap.size):=Nat.le_refl _
 clear x2 bA hv lf ls
 go_enter func61,ntmps61
 go_wp2_with fail
 refine (ae TO _ (ae BA)).mono ?_
 rintro e w1 ⟨v1,rfl,hf1,hb1⟩
 have B1:=af ((ae BA).trans' hb1)
 have X21:=af ((ae X2).but hb1)
 obtain⟨x1,y1,p1,rfl,-⟩:=id hf1.agg
 generalize decide (S.num<0)=s1 at *
 have QU1:=af (ae QU _ _ hf1)
 clear hb1 hf1 X2 BA TO QU
 go_wp2_with fail
 refine (ae QU1).mono ?_
 rintro e w2 ⟨v2,rfl,hf2,hb2⟩
 have B2:=af ((ae B1).trans' hb2)
 have X22:=af ((ae X21).but hb2)
 obtain⟨x2,y2,p2,rfl,-⟩:=id hf2.agg
 generalize decide (M.num<0)=s2 at *
 have HF2:=af hf2
 clear hb2 hf2 X21 B1 QU1
 generalize hg2:w.heap.size=g2 at *
 obtain⟨⟨t3,a3,b3,q3,⟨c0,c1,c2,c3⟩,-⟩,z3⟩:=ae X22
 have P2:Hid (P4 w2 g2 t3 a3 b3 q3):=⟨c0,c1,c2,c3⟩
 go_wp2
 have hP:=ay w2 g2 s2 x2 y2 p2
 obtain⟨m0,m1,m2,m3⟩:=jl w2 g2 s2 x2 y2 p2 (ae P2)
 have hF:But [] w (zy w2 g2 s2 x2 y2 p2):=(ae B2).trans hP (fun x hx=>by simp at hx;subst hx;exact .inr (by omega))
 have hff:=(ae HF2).over ((ae P2)).1 hP
 change bodyPost _ _ _ _ _ (zy w2 g2 s2 x2 y2 p2)
 generalize zy w2 g2 s2 x2 y2 p2=F at *
 exact bodyPost_ret (v:=.agg #[.bool s2,.int .u64 x2,.int .u64 y2,.pointer p2]) (by simp[results,results61,go_sem,m0,m1,m2,m3]) rfl ⟨_,rfl,hff,hF⟩
theorem zah (f:Nat→Rat) (c:Rat) (n:Nat):sgR (fun k=>f k*c) n=sgR f n*c:=by
 rw[Rat.mul_comm,← zvq]
 exact yo _ _ n (fun k _=>Rat.mul_comm _ _)
theorem var_eq (c m:Nat→Rat) (n:Nat) (h1:sgR c n=1):sgR (fun j=>c j*(m j*m j)) n-sgR (fun j=>c j*m j) n*sgR (fun j=>c j*m j) n=sgR (fun j=>c j*((m j-sgR (fun j=>c j*m j) n)*(m j-sgR (fun j=>c j*m j) n))) n:=by
 generalize hM:sgR (fun j=>c j*m j) n=M at *
 have e:sgR (fun j=>c j*((m j-M)*(m j-M))) n=sgR (fun j=>(c j*(m j*m j)-(c j*m j)*(2*M))+c j*(M*M)) n:=yo _ _ n (fun j _=>by grind)
 rw[e,zpk,zku,zah (fun j=>c j*m j),zah c,hM,h1]
 grind
theorem sq_nonneg (x:Rat):0≤x*x:=by
 rcases (Rat.le_total:(0:Rat)≤x∨x≤0) with h | h
 ·exact Rat.mul_nonneg h h
 ·have:=Rat.mul_nonneg (show 0≤-x by grind) (show 0≤-x by grind)
  grind
theorem zka (c m:Nat→Rat) (n:Nat) (hc:∀ j,j<n→0≤c j) (h1:sgR c n=1):0≤sgR (fun j=>c j*(m j*m j)) n-sgR (fun j=>c j*m j) n*sgR (fun j=>c j*m j) n:=by
 rw[var_eq c m n h1]
 exact zep _ n (fun j hj=>Rat.mul_nonneg (hc j hj) (sq_nonneg _))
theorem zti (x:Nat→Rat) (n:Nat) (a o:Rat) (_hn:0<n) (ha:a*(((n:Nat):Int):Rat)=sgR x n):sgR (fun j=>a+o*(x j-a)) n=a*(((n:Nat):Int):Rat):=by
 have hone:∀ k:Nat,sgR (fun _=>(1:Rat)) k=(((k:Nat):Int):Rat):=fun k=>by
  induction k with
  | zero=>rfl
  | succ k ih =>
   show sgR (fun _=>(1:Rat)) k+1=_
   rw[ih,Int.natCast_add,Rat.intCast_add];rfl
 have e:sgR (fun j=>a+o*(x j-a)) n=sgR (fun j=>1*(a-o*a)+x j*o) n:=yo _ _ n (fun j _=>by grind)
 rw[e,zpk,zah (fun _=>1),zah x,hone,← ha]
 grind
end Go.Proofs.YtffghofheeleeaaGreatDoor
