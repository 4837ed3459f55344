/- The greatest common divisor of two words -/
import Derived.Test.YtagmkkiagjmimaaGreatDoorProg
import Derived.WalkKit
import Derived.Deep.QuietTactic
import Derived.BigQuiet
import Derived.Deep.RegionHeld
import Derived.Deep.RegionWith
import Derived.Deep.LoopGhost
import Derived.Laws.OwnMore
import Derived.Lib.AppendIntMem
import Derived.Test.YtagmkkiagjmimaaGreatDoorSN12f
import Derived.Test.YtagmkkiagjmimaaGreatDoorSN17a
import Derived.Test.YtagmkkiagjmimaaGreatDoorSN17b
import Derived.Test.YtagmkkiagjmimaaGreatDoorSN31
namespace Go.Proofs.YtagmkkiagjmimaaGreatDoor
set_option linter.unusedVariables false
open Go.Proofs.Tryz
open Go.RowKit
set_option maxHeartbeats 8000000
set_option maxRecDepth 100000
theorem jm (x y:Nat) (w:World) (hx:x<18446744073709551616) (hy:y<18446744073709551616) :
   Calls prog 133 #[.int .u64 x,.int .u64 y] w fun e w'=>e=.returned (.int .u64 (Nat.gcd x y:Nat))∧∃ n,w'=w.drewN n:=by(
 go_enter func133,ntmps133
 go_wp2
 go_loopw [0,1] (fun a b w'=>∃ p q:Nat,a=.int .u64 p∧b=.int .u64 q∧p<18446744073709551616∧q<18446744073709551616∧Hid (Nat.gcd p q=Nat.gcd x y)∧∃ n,w'=w.drewN n) (fun _ b _=>(intOf b).toNat)
 case atStart=>exact⟨x,y,rfl,rfl,hx,hy,(rfl:Nat.gcd x y=Nat.gcd x y),0,rfl⟩
 case round =>(
 obtain⟨p,q,rfl,rfl,hp,hq,hg,n,rfl⟩:=hrel
 by_cases h0:q=0
 ·subst h0
  go_wp2
  go_ret
  exact⟨by rw[← hg.out];simp,n,rfl⟩
 ·(
 have hb:((q:Int)==0)=false:=by simp;exact h0
 have hn:((q:Int) != 0)=true:=by simp;exact h0
 go_wp2
 go_quiet (fail)
 go_roundw
 case rel =>(
 refine⟨_,_,_,_,_,_,_,_,⟨q,p%q,rfl,?_,hq,?_,?_,n+nq,?_⟩,rfl⟩
 ·rw[Int.natCast_emod]
 ·exact Nat.lt_trans (Nat.mod_lt _ (Nat.pos_of_ne_zero h0)) hq
 ·show Nat.gcd q (p%q)=Nat.gcd x y
  rw[← hg.out,Nat.gcd_comm p q,Nat.gcd_rec q p,Nat.gcd_comm]
 ·exact World.drewN_drewN _ _ _)
 case measure =>(
 simp[intOf]
 have:=Nat.mod_lt p (Nat.pos_of_ne_zero h0)
 omega))))
theorem iy (s:Bool) (p q:Nat) (hq:q<18446744073709551616) (hq0:0<q) (w:World) :
   Calls prog 140 #[.agg #[.bool s,.int .u64 (p:Int),.int .u64 ((q:Int)-1),.pointer none]] w fun e w'=>e=.returned (.int .u64 (q:Int))∧But [] w w':=by(
 go_enter func140,ntmps140
 go_wp2
 go_ret
 exact⟨rfl,(But.refl _ _).alloc _⟩)
theorem zka (x:Int) (h1:-9223372036854775808≤x) (h2:x<9223372036854775808) (w:World) :
   Calls prog 132 #[.int .i64 x] w fun e w'=>e=.returned (.int .u64 (x.natAbs:Nat))∧w'=w:=by(
 by_cases hx:x<0
 ·(
 have e1:IntKind.u64.wrap (-IntKind.u64.wrap x)=((x.natAbs:Nat):Int):=by rw[IntKind.wrap_u64,IntKind.wrap_u64];omega
 obtain⟨n,hn⟩:∃ n:Nat,n=x.natAbs:=⟨_,rfl⟩
 rw[← hn] at e1 ⊢
 clear hn
 go_enter func132,ntmps132
 go_wp2
 go_ret
 exact⟨rfl,rfl⟩)
 ·(
 obtain⟨n,rfl⟩:=Int.eq_ofNat_of_zero_le (Int.not_lt.1 hx)
 rw[Int.natAbs_natCast]
 go_enter func132,ntmps132
 go_wp2
 go_ret
 exact⟨rfl,rfl⟩))
theorem zbq (s:Bool) (p q:Nat) (hp:p<18446744073709551616) (hq:q<18446744073709551616) (hq0:0<q) (r:Bool) (hr:Hid (r=(s && decide (p≠0)))) (w:World) :
   Calls prog 134 #[.bool s,.int .u64 (p:Int),.int .u64 (q:Int)] w fun e w'=>e=.returned (.agg #[.bool r,.int .u64 (p:Int),.int .u64 ((q:Int)-1),.pointer none])∧But [] w w':=by(
 have e:((p:Int) != 0)=decide (p≠0):=by rw[Bool.eq_iff_iff];simp
 by_cases h0:p=0
 ·(
 subst h0
 have er:Hid (r=false):=by show _=_;rw[ae hr];simp
 clear hr e
 cases s
 all_goals(
 go_enter func134,ntmps134
 go_wp2
 rw[ae er]
 exact bodyPost_ret (v:=.agg #[.bool false,.int .u64 ((0:Nat):Int),.int .u64 ((q:Int)-1),.pointer none]) (by simp[results,results134,go_sem]) rfl ⟨rfl,(But.refl _ _).alloc _⟩))
 ·(
 have e1:((p:Int) != 0)=true:=by rw[e];simp[h0]
 cases s
 ·(
 have er:Hid (r=false):=by show _=_;rw[ae hr];simp
 clear hr e
 go_enter func134,ntmps134
 go_wp2
 rw[ae er]
 exact bodyPost_ret (v:=.agg #[.bool false,.int .u64 (p:Int),.int .u64 ((q:Int)-1),.pointer none]) (by simp[results,results134,go_sem]) rfl ⟨rfl,(But.refl _ _).alloc _⟩)
 ·(
 have er:Hid (r=true):=by show _=_;rw[ae hr];simp[h0]
 clear hr e
 go_enter func134,ntmps134
 go_wp2
 rw[ae er]
 exact bodyPost_ret (v:=.agg #[.bool true,.int .u64 (p:Int),.int .u64 ((q:Int)-1),.pointer none]) (by simp[results,results134,go_sem]) rfl ⟨rfl,(But.refl _ _).alloc _⟩)))
theorem zul (x y:Int) (hx1:-9223372036854775808≤x) (hx2:x<9223372036854775808) (hy1:-9223372036854775808≤y) (hy2:y<9223372036854775808) (hy0:y≠0) (w:World) (r:Bool) (p q:Nat) (hr:Hid (r=((decide (x<0) != decide (y<0)) && decide (p≠0)))) (hp:Hid (p=x.natAbs/Nat.gcd x.natAbs y.natAbs)) (hq:Hid (q=y.natAbs/Nat.gcd x.natAbs y.natAbs)) :
   Calls prog 60 #[.int .i64 x,.int .i64 y] w fun e w'=>e=.returned (.tuple #[.agg #[.bool r,.int .u64 (p:Int),.int .u64 ((q:Int)-1),.pointer none],.nilIface])∧But [] w w':=by(
 have n0:(y==0)=false:=by simp;exact hy0
 obtain⟨g,hg⟩:∃ g,g=Nat.gcd x.natAbs y.natAbs:=⟨_,rfl⟩
 have hg0:0<g:=by rw[hg];exact Nat.gcd_pos_of_pos_right _ (by omega)
 have hgl:g≤y.natAbs:=by rw[hg];exact Nat.gcd_le_right _ (by omega)
 have hp':p=x.natAbs/g:=by rw[hg];exact ae hp
 have hq':q=y.natAbs/g:=by rw[hg];exact ae hq
 have hp64:p<18446744073709551616:=by rw[hp'];exact Nat.lt_of_le_of_lt (Nat.div_le_self _ _) (by omega)
 have hq64:q<18446744073709551616:=by rw[hq'];exact Nat.lt_of_le_of_lt (Nat.div_le_self _ _) (by omega)
 have hq0:0<q:=by rw[hq'];exact Nat.div_pos hgl hg0
 have hgz:((g:Int)==0)=false:=by simp;omega
 have hg64:g<18446744073709551616:=by omega
 obtain⟨a,ha⟩:∃ a,a=x.natAbs:=⟨_,rfl⟩
 obtain⟨b,hb⟩:∃ b,b=y.natAbs:=⟨_,rfl⟩
 have ha64:a<18446744073709551616:=by omega
 have hb64:b<18446744073709551616:=by omega
 have d1:(a:Int)/(g:Int)=(p:Int):=by rw[hp',← ha,Int.natCast_ediv]
 have d2:(b:Int)/(g:Int)=(q:Int):=by rw[hq',← hb,Int.natCast_ediv]
 have d3:(a:Int).tdiv (g:Int)=(p:Int):=by rw[Int.tdiv_eq_ediv_of_nonneg (by omega)];exact d1
 have d4:(b:Int).tdiv (g:Int)=(q:Int):=by rw[Int.tdiv_eq_ediv_of_nonneg (by omega)];exact d2
 have d5:IntKind.u64.wrap (p:Int)=(p:Int):=by rw[IntKind.wrap_u64];omega
 have d6:IntKind.u64.wrap (q:Int)=(q:Int):=by rw[IntKind.wrap_u64];omega
 have HA:=af ha
 have HB:=af hb
 have HG:=af hg
 clear hp' hq' ha hb hg hgl
 obtain⟨s1,hs1⟩:∃ s1,s1=decide (x<0):=⟨_,rfl⟩
 go_enter func60,ntmps60
 go_wp2_with fail
 refine (zka x hx1 hx2 _).mono ?_
 rintro e w1 ⟨rfl,hw⟩
 obtain rfl:=hw.symm
 clear hw
 rw[← ae HA]
 go_wp2_with fail
 refine (zka y hy1 hy2 _).mono ?_
 rintro e w1 ⟨rfl,hw⟩
 obtain rfl:=hw.symm
 clear hw
 rw[← ae HB]
 go_wp2_with fail
 refine (jm a b _ ha64 hb64).mono ?_
 rintro e w1 ⟨rfl,k,rfl⟩
 rw[show Nat.gcd a b=g from by rw[ae HA,ae HB,ae HG]]
 go_wp2
 have hb0:But [] w ((w.alloc (.cells #[.bool false,.int .u64 0,.int .u64 0,.pointer none] 27)).drewN k):=((But.refl _ _).alloc _).drewN k
 have c0:((w.alloc (.cells #[.bool false,.int .u64 0,.int .u64 0,.pointer none] 27)).drewN k).cell? ⟨w.heap.size,0,none⟩=some (.bool false):=by simp
 have c1:((w.alloc (.cells #[.bool false,.int .u64 0,.int .u64 0,.pointer none] 27)).drewN k).cell? ⟨w.heap.size,1,none⟩=some (.int .u64 0):=by simp
 have c2:((w.alloc (.cells #[.bool false,.int .u64 0,.int .u64 0,.pointer none] 27)).drewN k).cell? ⟨w.heap.size,2,none⟩=some (.int .u64 0):=by simp
 have c3:((w.alloc (.cells #[.bool false,.int .u64 0,.int .u64 0,.pointer none] 27)).drewN k).cell? ⟨w.heap.size,3,none⟩=some (.pointer none):=by simp
 have hf:∀ j,((w.alloc (.cells #[.bool false,.int .u64 0,.int .u64 0,.pointer none] 27)).drewN k).frozen? ⟨w.heap.size,j,none⟩=false:=by intro j;simp
 have hsz:w.heap.size<((w.alloc (.cells #[.bool false,.int .u64 0,.int .u64 0,.pointer none] 27)).drewN k).heap.size:=by simp
 generalize (w.alloc (.cells #[.bool false,.int .u64 0,.int .u64 0,.pointer none] 27)).drewN k=W at *
 obtain⟨gb,hgb⟩:∃ gb,gb=w.heap.size:=⟨_,rfl⟩
 rw[← hgb] at c0 c1 c2 c3 hf hsz
 rw[← hgb]
 have HGB:=af hgb
 clear hgb
 go_region_with (go_at_call 134;refine (zbq (decide (x<0) != decide (y<0)) p q hp64 hq64 hq0 r hr _).mono ?_;rintro e w1 ⟨rfl,hb1⟩;have B1:But [] W w1:=(by first | exact hb1 | exact (But.refl _ _).drew.trans' hb1);have k0:=B1.ag c0 (by simp);have k1:=B1.ag c1 (by simp);have k2:=B1.ag c2 (by simp);have k3:=B1.ag c3 (by simp);have f0:=(B1.frozen (p:=⟨gb,0,none⟩) hsz (by simp)).trans (hf 0);have f1:=(B1.frozen (p:=⟨gb,1,none⟩) hsz (by simp)).trans (hf 1);have f2:=(B1.frozen (p:=⟨gb,2,none⟩) hsz (by simp)).trans (hf 2);have f3:=(B1.frozen (p:=⟨gb,3,none⟩) hsz (by simp)).trans (hf 3))
 all_goals go_wp2
 all_goals
  have hge:w.heap.size≤gb:=Nat.le_of_eq (ae HGB).symm
  exact bodyPost_ret (v:=.tuple #[.agg #[.bool r,.int .u64 (p:Int),.int .u64 ((q:Int)-1),.pointer none],.nilIface]) (by simp[results,results60,go_sem,k0,k1,k2,k3]) rfl ⟨rfl,(((((hb0.trans' B1).setCell (.inr hge) _).setCell (.inr hge) _).setCell (.inr hge) _).setCell (.inr hge) _)⟩)
theorem zvl (X m:Nat) (h:(wd 18446744073709551616 X).length=m+2):X=vl 18446744073709551616 ((wd 18446744073709551616 X).take m) + 18446744073709551616^m*((wd 18446744073709551616 X)[m]?.getD 0 + 18446744073709551616*(wd 18446744073709551616 X)[m+1]?.getD 0):=by(
 have e:=ul 18446744073709551616 (wd 18446744073709551616 X) m (by omega)
 rw[drop_one _ (m+1) (by omega),zsy,qg (by omega)] at e
 exact e)
theorem qfx (X m:Nat) (h:(wd 18446744073709551616 X).length=m+1):X=vl 18446744073709551616 ((wd 18446744073709551616 X).take m) + 18446744073709551616^m*((wd 18446744073709551616 X)[m]?.getD 0 + 18446744073709551616*0):=by(
 have e:=ul 18446744073709551616 (wd 18446744073709551616 X) m (by omega)
 rw[List.drop_eq_nil_of_le (by omega),vl,qg (by omega)] at e
 exact e)
theorem qfc (x1 x0 n:Nat) (hn:n≤63) (hx0:x0 < 18446744073709551616) (h:x1*2^n < 18446744073709551616):x1*2^n+x0/2^(64-n) < 18446744073709551616:=by(
 have hp:18446744073709551616=2^(64-n)*2^n:=by rw[← Nat.pow_add,show (64-n)+n=64 from by omega]
 have h5:(x1+1)*2^n≤18446744073709551616:=by
  rw[hp] at h ⊢
  exact Nat.mul_le_mul_right _ (Nat.lt_of_mul_lt_mul_right h)
 rw[Nat.add_mul,Nat.one_mul] at h5
 have:=(zqd x1 x0 n hn hx0).2
 generalize x0/2^(64-n)=z at *
 generalize x1*2^n=y at *
 generalize 2^n=P at *
 omega)
theorem xk.fin' {ps qs ps' qs':List Nat} {c1 c2 c3 c4 n up dn lf rt bo ow:Nat} (h:xk ps qs ps' qs' c1 c2 c3 c4 n up dn lf rt bo ow) (hn:ps.length=n) (hl:ps.length=qs.length) (P' Q' X Y hp hq:Nat)
  (eP:P'=vl 18446744073709551616 ps + 18446744073709551616^n*hp) (eQ:Q'=vl 18446744073709551616 qs + 18446744073709551616^n*hq) (eX:X+c2*Q'=c1*P') (eY:Y+c3*P'=c4*Q') (hX:X < 18446744073709551616^n) (hY:Y < 18446744073709551616^n):vl 18446744073709551616 ps'=X∧vl 18446744073709551616 qs'=Y:=by
 subst hn
 exact h.fin hl P' Q' X Y hp hq eP eQ eX eY hX hY
theorem zqb (vx vy:Value) (X Y:Nat) (w:World) (hx:Sl .u64 w vx (wd 18446744073709551616 X)) (hy:Sl .u64 w vy (wd 18446744073709551616 Y)) (h2:2≤(wd 18446744073709551616 Y).length) (hn:(wd 18446744073709551616 X).length<(wd 18446744073709551616 Y).length+2) (hle:Y≤X) (hl:(wd 18446744073709551616 X).length<268435456) :
   Calls prog 239 #[vx,vy] w fun e w'=>∃ (xx xy yx yy:Nat) (back:Bool),e=.returned (.agg #[.int .u64 (xx:Int),.int .u64 (xy:Int),.int .u64 (yx:Int),.int .u64 (yy:Int),.bool back])∧xx < 18446744073709551616∧xy < 18446744073709551616∧yx < 18446744073709551616∧yy < 18446744073709551616∧uj X Y xx xy yx yy back∧But [] w w':=by(
 have hlen:=au hle
 rcases hx.open with ⟨e,-⟩|⟨-,b1,o1,c1,rfl,hc1,-,hcx⟩
 ·rw[e,List.length_nil] at hlen;omega
 rcases hy.open with ⟨e,-⟩|⟨-,b2,o2,c2,rfl,hc2,-,hcy⟩
 ·rw[e] at h2;simp at h2
 obtain⟨m,hm⟩:∃ m,(wd 18446744073709551616 X).length=m+2:=⟨(wd 18446744073709551616 X).length-2,by omega⟩
 have hXp:0<X:=by
  rcases Nat.eq_zero_or_pos X with h | h
  ·subst h;rw[zh] at hm;simp at hm
  ·exact h
 obtain⟨t1,t2,-,-⟩:=zeo X hXp
 have ht:zw X=(wd 18446744073709551616 X)[m+1]?.getD 0:=by unfold zw;rw[hm];rfl
 obtain⟨z1,z2,-,-⟩:=u6 (zw X) t1 t2
 have eX:=zvl X m hm
 have lX:=ru (wd 18446744073709551616 X) m (by omega) (zo (by omega) X)
 have mX:=zo (B:=18446744073709551616) (by omega) X
 have mY:=zo (B:=18446744073709551616) (by omega) Y
 have k1:=hcx (m+1) (by omega)
 have k0:=hcx m (by omega)
 have bx0:=bt mX (by omega:0 < 18446744073709551616) m
 rw[ht] at t1 t2 z1 z2
 obtain⟨ε,e1,e2⟩:=zfl ((wd 18446744073709551616 X)[m+1]?.getD 0) ((wd 18446744073709551616 X)[m]?.getD 0) m (lz ((wd 18446744073709551616 X)[m+1]?.getD 0)) _ z1 lX
 rw[← eX] at e1
 have haB:=qfc _ _ _ z1 bx0 z2
 rcases Nat.lt_or_ge (wd 18446744073709551616 Y).length (m+2) with hsh | hsh
 ·(
 have hny:(wd 18446744073709551616 Y).length=m+1:=by omega
 have eY:=qfx Y m hny
 have lY:=ru (wd 18446744073709551616 Y) m (by omega) mY
 obtain⟨δ,f1,f2⟩:=zfl 0 ((wd 18446744073709551616 Y)[m]?.getD 0) m (lz ((wd 18446744073709551616 X)[m+1]?.getD 0)) _ z1 lY
 rw[← eY] at f1
 rw[Nat.zero_mul] at f1
 have hda:=zwj _ _ _ _ _ X Y e1 f1 e2 hle
 exact zoc b1 o1 c1 b2 o2 c2 _ _ w ((wd 18446744073709551616 X)[m+1]?.getD 0) ((wd 18446744073709551616 X)[m]?.getD 0) 0 ((wd 18446744073709551616 Y)[m]?.getD 0) _ (0+(wd 18446744073709551616 Y)[m]?.getD 0/2^(64-lz ((wd 18446744073709551616 X)[m+1]?.getD 0))) (lz ((wd 18446744073709551616 X)[m+1]?.getD 0)) m X Y hm hny (by omega) k1 k0 (fun h=>by omega) (hcy m (by omega)) t1 t2 bx0 (by omega) (bt mY (by omega) m) z1 (by show _=_;rfl) (by show _=_;rfl) (by show _=_;rw[if_neg (by omega)]) z2 (fun h=>by omega) haB (Nat.lt_of_le_of_lt hda haB) hda (fun a b xx xy yx yy back h=>uj.of h X Y _ ε δ e1 f1 e2 f2) hc1 hc2)
 ·(
 have hny:(wd 18446744073709551616 Y).length=m+2:=by omega
 have eY:=zvl Y m hny
 have lY:=ru (wd 18446744073709551616 Y) m (by omega) mY
 obtain⟨δ,f1,f2⟩:=zfl ((wd 18446744073709551616 Y)[m+1]?.getD 0) ((wd 18446744073709551616 Y)[m]?.getD 0) m (lz ((wd 18446744073709551616 X)[m+1]?.getD 0)) _ z1 lY
 rw[← eY] at f1
 have hda:=zwj _ _ _ _ _ X Y e1 f1 e2 hle
 exact zob b1 o1 c1 b2 o2 c2 _ _ w ((wd 18446744073709551616 X)[m+1]?.getD 0) ((wd 18446744073709551616 X)[m]?.getD 0) ((wd 18446744073709551616 Y)[m+1]?.getD 0) ((wd 18446744073709551616 Y)[m]?.getD 0) _ _ (lz ((wd 18446744073709551616 X)[m+1]?.getD 0)) m X Y hm hny (by omega) k1 k0 (fun _=>hcy (m+1) (by omega)) (hcy m (by omega)) t1 t2 bx0 (bt mY (by omega) _) (bt mY (by omega) m) z1 (by show _=_;rfl) (by show _=_;rfl) (by show _=_;rw[if_pos hny]) z2 (fun _=>Nat.lt_of_le_of_lt (Nat.le_trans (Nat.le_add_right _ _) hda) haB) haB (Nat.lt_of_le_of_lt hda haB) hda (fun a b xx xy yx yy back h=>uj.of h X Y _ ε δ e1 f1 e2 f2) hc1 hc2))
def Less (lo:Nat) (w:World) (X Y:Nat) (e:Ending) (w':World):Prop:=∃ v1 v2 X' Y',e=.returned (.tuple #[v1,v2])∧zmr lo w' v1 v2 X' Y'∧Y'≤X'∧Y' < Y∧X'≤X∧Nat.gcd X' Y'=Nat.gcd X Y∧∃ l:List Nat,(∀ x ∈ l,lo≤x)∧But l w w'
theorem zpb (X Y:Nat):Nat.gcd Y (X%Y)=Nat.gcd X Y:=by rw[Nat.gcd_comm X Y,Nat.gcd_rec Y X,Nat.gcd_comm]
theorem zxh (lo:Nat) (vx vy:Value) (X Y xx xy yx yy:Nat) (back:Bool) (w:World) (hp:zmr lo w vx vy X Y) (h2:2≤(wd 18446744073709551616 Y).length) (hle:Y≤X) (hl:(wd 18446744073709551616 X).length<1073741824) (hxx:xx < 18446744073709551616) (hxy:xy < 18446744073709551616) (hyx:yx < 18446744073709551616) (hyy:yy < 18446744073709551616) (hs:uj X Y xx xy yx yy back) (hne:xy≠0) :
   Calls prog 240 #[.agg #[.int .u64 (xx:Int),.int .u64 (xy:Int),.int .u64 (yx:Int),.int .u64 (yy:Int),.bool back],vx,vy] w fun e w'=>Less lo w X Y e w':=by(
 have hlen:=au hle
 rcases hs with h0|⟨X',Y',hrel,hlt,hXY,hg⟩
 ·exact absurd h0 hne
 have mX:=zo (B:=18446744073709551616) (by omega) X
 have mY:=zo (B:=18446744073709551616) (by omega) Y
 rcases hp.s1.open with ⟨e,-⟩|⟨-,g1,o1,c1,rfl,hc1,-,-⟩
 ·rw[e,List.length_nil] at hlen;omega
 rcases hp.s2.open with ⟨e,-⟩|⟨-,g2,o2,c2,rfl,hc2,-,-⟩
 ·rw[e] at h2;simp at h2
 have hap:g1≠g2:=hp.ap _ _ _ _ _ _ _ _ rfl rfl
 obtain⟨l1,f1⟩:=hp.o1 _ _ _ _ rfl
 obtain⟨l2,f2⟩:=hp.o2 _ _ _ _ rfl
 have s1:=hp.s1.seg f1
 have s2:=hp.s2.seg f2
 have sP:=s1.sub 0 (wd 18446744073709551616 Y).length (by omega)
 rw[List.drop_zero,Nat.add_zero] at sP
 have lP:((wd 18446744073709551616 X).take (wd 18446744073709551616 Y).length).length=(wd 18446744073709551616 Y).length:=by rw[List.length_take];omega
 have eP:=wu (wd 18446744073709551616 X) (wd 18446744073709551616 Y).length hlen
 rw[qg (by omega)] at eP
 have eQ:Y=vl 18446744073709551616 (wd 18446744073709551616 Y) + 18446744073709551616^(wd 18446744073709551616 Y).length*0:=by rw[qg (by omega)];omega
 have hYl:=zdp Y
 have mP:∀ x ∈ (wd 18446744073709551616 X).take (wd 18446744073709551616 Y).length,x < 18446744073709551616:=fun x hx=>mX x (List.mem_of_mem_take hx)
 cases back
 ·(
 simp only[Bool.false_eq_true,if_false] at hrel
 refine (zxg g1 o1 c1 g2 o2 c2 _ _ ((wd 18446744073709551616 X).take (wd 18446744073709551616 Y).length) (wd 18446744073709551616 Y) w xx xy yx yy hxx hxy hyx hyy hap sP s2 lP rfl (by omega) hlen hc1 hc2 hl mP mY X' Y' (fun ps' qs' u d l r b o h=>?_)).mono ?_
 ·exact h.fin' lP lP X Y X' Y' _ 0 eP eQ hrel.1 hrel.2 (by omega) (by omega)
 ·rintro e w' ⟨v1,v2,rfl,h1,h2',hb,ho1,ho2⟩
  exact⟨v1,v2,X',Y',rfl,⟨h1,h2',ho1.own l1,ho2.own l2,fun b off n c b' off' n' c' e1 e2=>by rw[(ho1 _ _ _ _ e1).1,(ho2 _ _ _ _ e2).1];exact hap⟩,by omega,by omega,by omega,hg,[g1,g2],fun x hx=>by simp at hx;rcases hx with rfl|rfl <;> assumption,hb⟩)
 ·(
 simp only[if_true] at hrel
 refine (ztc g1 o1 c1 g2 o2 c2 _ _ (wd 18446744073709551616 Y) ((wd 18446744073709551616 X).take (wd 18446744073709551616 Y).length) w xx xy yx yy hxx hxy hyx hyy hap sP s2 rfl lP (by omega) hlen hc1 hc2 hl mY mP X' Y' (fun ps' qs' u d l r b o h=>?_)).mono ?_
 ·exact h.fin' rfl lP.symm Y X X' Y' 0 _ eQ eP hrel.1 hrel.2 (by omega) (by omega)
 ·rintro e w' ⟨v1,v2,rfl,h1,h2',hb,ho1,ho2⟩
  exact⟨v1,v2,X',Y',rfl,⟨h1,h2',ho1.own l2,ho2.own l1,fun b off n c b' off' n' c' e1 e2=>by rw[(ho1 _ _ _ _ e1).1,(ho2 _ _ _ _ e2).1];exact hap.symm⟩,by omega,by omega,by omega,hg,[g1,g2],fun x hx=>by simp at hx;rcases hx with rfl|rfl <;> assumption,hb⟩))
theorem zos (vx vy:Value) (X Y:Nat) (w:World) (hx:Sl .u64 w vx (wd 18446744073709551616 X)) (hy:Sl .u64 w vy (wd 18446744073709551616 Y)) (hY:0<Y) (hl:(wd 18446744073709551616 X).length<134217728) (hly:(wd 18446744073709551616 Y).length<134217728)
   (hD:2≤(wd 18446744073709551616 Y).length→Y≤X→yw (X*2^lz (zw Y)) (Y*2^lz (zw Y))) :
   Calls prog 189 #[vx,vy] w fun e w'=>∃ v1 v2,e=.returned (.tuple #[v1,v2])∧Sl .u64 w' v1 (wd 18446744073709551616 (X/Y))∧Sl .u64 w' v2 (wd 18446744073709551616 (X%Y))∧But [] w w'∧q9 w vx w' v2:=by(
 have hcmp:=xu vx vy X Y w hx hy (by omega) (by omega)
 rcases Nat.lt_or_ge X Y with hlt | hge
 ·(
 rw[o8 hlt] at hcmp
 rw[Nat.div_eq_of_lt hlt,Nat.mod_eq_of_lt hlt,zh]
 have HC:=af hcmp
 have HX:=af hx
 obtain⟨a1,c1,rfl,-,-⟩:=hx
 obtain⟨a2,c2,rfl,-,-⟩:=hy
 clear hcmp hD
 generalize (wd 18446744073709551616 X).length=nx at *
 generalize (wd 18446744073709551616 Y).length=ny at *
 go_enter func189,ntmps189
 go_wp2_with fail
 refine (ae HC).mono ?_
 rintro e w1 ⟨rfl,q,rfl⟩
 go_wp2
 go_ret2
 exact⟨_,_,rfl,Sl.nil _ _,ae HX,(But.refl _ _).drewN q,q9.self _ _ _⟩)
 ·(
 have hc0:=zan hge
 generalize zq X Y=r at *
 have hr:decide (r<0)=false:=by simp;omega
 have HC:=af hcmp
 have HX:=af hx
 have HY:=af hy
 rcases hy.open with ⟨e,-⟩|⟨hp,b2,o2,c2,rfl,hc2,-,hcell⟩
 ·rw[ve (by omega)] at e;omega
 obtain⟨a1,c1,rfl,-,-⟩:=hx
 by_cases h1:(wd 18446744073709551616 Y).length=1
 ·(
 have hYB:Y < 18446744073709551616:=by
  have:=ak (B:=18446744073709551616) (by omega) Y 1 (by omega)
  rw[Nat.pow_one] at this
  exact this
 have hc:=hcell 0 (by omega)
 rw[Nat.add_zero,zcu Y hY hYB] at hc
 simp only[List.getElem?_cons_zero,Option.getD_some] at hc
 have HB:=af (fun (W:World) (h:Sl .u64 W (.slice a1 (wd 18446744073709551616 X).length c1) (wd 18446744073709551616 X))=>zfp _ X Y W h (by omega) hY hYB)
 have hmod:X%Y < 18446744073709551616:=Nat.lt_trans (Nat.mod_lt _ hY) hYB
 clear hcmp hD hcell hy
 generalize hnx:(wd 18446744073709551616 X).length=nx at *
 generalize hny:(wd 18446744073709551616 Y).length=ny at *
 clear hnx hny
 have e1:((ny:Int)==1)=true:=beq_iff_eq.2 (by omega)
 have hp1:(0:Int)<(ny:Int):=by omega
 have HE:=af h1
 clear h1
 go_enter func189,ntmps189
 go_wp2_with fail
 refine (ae HC).mono ?_
 rintro e w1 ⟨rfl,q,rfl⟩
 go_wp2_with fail
 refine (ae HB _ (by exact ae HX)).mono ?_
 rintro e w2 ⟨v1,rfl,hv1,hb2⟩
 have B2:Hid (But [] w w2):=((But.refl [] _).drewN q).trans' hb2
 have HV1:=af hv1
 clear hb2 hv1
 go_wp2_with fail
 refine (jc (X%Y) hmod _).mono ?_
 rintro e w3 ⟨v2,rfl,hv2,hb3,ho3⟩
 have ALL:=af (And.intro ((ae HV1).ah hb3) (And.intro hv2 (And.intro ((ae B2).trans' hb3) (ho3.mono (ae B2).size))))
 clear hv2 hb3 ho3
 go_wp2
 go_ret2
 exact⟨v1,v2,rfl,(ae ALL).1,(ae ALL).2.1,(ae ALL).2.2.1,q9.zec (ae ALL).2.2.2⟩)
 ·(
 obtain⟨t1,t2,-,-⟩:=zeo Y hY
 have hs:=(u6 (zw Y) t1 t2).1
 have hDO:=hD (by omega) hge
 have hct:=hcell ((wd 18446744073709551616 Y).length-1) (by omega)
 have LZ:=af (fun W=>zeg (zw Y) t1 t2 W)
 have hnl:=zrj Y hY
 have hsl:=zoe X (lz (zw Y)) hs
 rw[show (wd 18446744073709551616 Y)[(wd 18446744073709551616 Y).length-1]?.getD 0=zw Y from rfl] at hct
 have HL1:=af (fun (W:World) (h:Sl .u64 W (.slice a1 (wd 18446744073709551616 X).length c1) (wd 18446744073709551616 X))=>zil _ X (lz (zw Y)) W h (by omega) hs)
 have HL2:=af (fun (W:World) (h:Sl .u64 W (.slice (some ⟨b2,o2,none⟩) (wd 18446744073709551616 Y).length c2) (wd 18446744073709551616 Y))=>zil _ Y (lz (zw Y)) W h (by omega) hs)
 have hz:0<2^lz (zw Y):=Nat.pow_pos (by omega)
 have HDO:=af hDO
 unfold yw at HDO
 rw[Nat.mul_div_mul_right _ _ hz,Nat.mul_mod_mul_right] at HDO
 have hrl:(wd 18446744073709551616 (X%Y*2^lz (zw Y))).length<1073741824:=by
  have:=zoe (X%Y) (lz (zw Y)) hs
  have h3:=au (Nat.mod_le X Y)
  omega
 have HRR:=af (fun (v:Value) (W:World) (h:Sl .u64 W v (wd 18446744073709551616 (X%Y*2^lz (zw Y))))=>zor v (X%Y*2^lz (zw Y)) (lz (zw Y)) W h hrl hs)
 rw[Nat.mul_div_cancel _ hz] at HRR
 clear hcmp hD hDO hcell hy hnl hsl hz
 generalize lz (zw Y)=s at *
 generalize zw Y=t at *
 generalize hnx:(wd 18446744073709551616 X).length=nx at *
 generalize hny:(wd 18446744073709551616 Y).length=ny at *
 clear hnx hny
 have e1:((ny:Int)==1)=false:=beq_eq_false_iff_ne.2 (by omega)
 go_enter func189,ntmps189
 go_wp2_with fail
 refine (ae HC).mono ?_
 rintro e w1 ⟨rfl,q,rfl⟩
 go_wp2_with fail
 refine (ae LZ _).mono ?_
 rintro e w1 ⟨rfl,hw⟩
 obtain rfl:=hw.symm
 clear hw
 go_wp2_with fail
 refine (ae HL1 _ (by exact ae HX)).mono ?_
 rintro e w2 ⟨v1,rfl,hv1,hb2,hp2⟩
 have B2:Hid (But [] w w2):=((But.refl [] _).drewN q).trans' hb2
 have HE1:Hid (q9 w (.slice a1 nx c1) w2 v1):=by
  rcases hp2 with rfl | ho
  ·exact q9.self _ _ _
  ·exact (q9.zec ho).pre (Nat.le_refl _)
 have HV1:=af hv1
 clear hb2 hv1 hp2
 go_wp2_with fail
 refine (ae HL2 _ ((ae HY).ah (ae B2))).mono ?_
 rintro e w3 ⟨v2,rfl,hv2,hb3,-⟩
 have B3:Hid (But [] w w3):=(ae B2).trans' hb3
 have HV2:=af hv2
 have HV1':=af ((ae HV1).ah hb3)
 have HE1':=af ((ae HE1).but (ae HV1) hb3)
 clear hv2 hb3 HV1 HE1
 go_wp2_with fail
 refine (ae HDO v1 v2 _ (ae HV1') (ae HV2)).mono ?_
 rintro e w4 ⟨v3,v4,rfl,hv3,hv4,hb4,he4⟩
 have B4:Hid (But [] w w4):=(ae B3).trans' hb4
 have H3:=af hv3
 have H4:=af hv4
 have HE4:=af ((ae HE1').trans (ae HV1') hb4 (ae B3).size he4)
 clear hv3 hv4 hb4 he4 HE1'
 go_wp2_with fail
 refine (ae HRR v4 _ (ae H4)).mono ?_
 rintro e w5 ⟨v5,rfl,hv5,hb5,hp5⟩
 have HE5:q9 w (.slice a1 nx c1) w5 v5:=by
  rcases hp5 with rfl | ho
  ·exact (ae HE4).but (ae H4) hb5
  ·exact (q9.zec ho).pre (ae B4).size
 have ALL:=af (And.intro ((ae H3).ah hb5) (And.intro hv5 (And.intro ((ae B4).trans' hb5) HE5)))
 clear hv5 hb5 hp5 HE5 HE4
 go_wp2
 go_ret2
 exact⟨v3,v5,rfl,(ae ALL).1,(ae ALL).2.1,(ae ALL).2.2.1,(ae ALL).2.2.2⟩)))
def Short (X _Y:Nat):Prop:=(wd 18446744073709551616 X).length≤1000000
theorem Short.of (X Y:Nat) (h:(wd 18446744073709551616 X).length≤1000000):Short X Y:=h
theorem zca (vx vy:Value) (X Y:Nat) (w:World) (hx:Sl .u64 w vx (wd 18446744073709551616 X)) (hy:Sl .u64 w vy (wd 18446744073709551616 Y)) (hY:0<Y) (hl:(wd 18446744073709551616 X).length<134217728) (hly:(wd 18446744073709551616 Y).length<134217728) (hs:Short X Y) :
  Calls prog 189 #[vx,vy] w fun e w'=>∃ v1 v2,e=.returned (.tuple #[v1,v2])∧Sl .u64 w' v1 (wd 18446744073709551616 (X/Y))∧Sl .u64 w' v2 (wd 18446744073709551616 (X%Y))∧But [] w w'∧q9 w vx w' v2 :=
 zos vx vy X Y w hx hy hY hl hly (fun h2 hle=>by
  obtain⟨t1,t2,-,-⟩:=zeo Y hY
  have hz:=(u6 (zw Y) t1 t2).1
  have h3:=zrj Y hY
  have h4:=zoe X (lz (zw Y)) hz
  have h5:=au hle
  unfold Short at hs
  exact zsf (wd 18446744073709551616 (X*2^lz (zw Y))).length _ _ (Nat.le_refl _) (by omega) (by omega))
theorem j4 (vx vy:Value) (X Y:Nat) (w:World) (hx:Sl .u64 w vx (wd 18446744073709551616 X)) (hy:Sl .u64 w vy (wd 18446744073709551616 Y)) (hY:0<Y) (hl:(wd 18446744073709551616 X).length<134217728) (hly:(wd 18446744073709551616 Y).length<134217728) (hs:Short X Y) :
   Calls prog 170 #[vx,vy] w fun e w'=>∃ v1,e=.returned v1∧Sl .u64 w' v1 (wd 18446744073709551616 (X/Y))∧But [] w w':=by(
 have HX:=af hx
 have HQ:=af (zca vx vy X Y w hx hy hY hl hly hs)
 have HO:=af (fun r hr=>dm vy Y w hy (by omega) r hr)
 obtain⟨a1,c1,rfl,-,-⟩:=hx
 obtain⟨a2,c2,rfl,-,-⟩:=hy
 clear hs
 generalize (wd 18446744073709551616 X).length=nx at *
 generalize (wd 18446744073709551616 Y).length=ny at *
 by_cases h1:Y=1
 ·(
 subst h1
 rw[Nat.div_one]
 go_enter func170,ntmps170
 go_wp2_with fail
 refine (ae HO true (by show true=_;simp)).mono ?_
 rintro e w1 ⟨rfl,hw⟩
 obtain rfl:=hw.symm
 clear hw
 go_wp2
 go_ret
 exact⟨_,rfl,ae HX,But.refl _ _⟩)
 ·(
 go_enter func170,ntmps170
 go_wp2_with fail
 refine (ae HO false (by show false=_;simp[h1])).mono ?_
 rintro e w1 ⟨rfl,hw⟩
 obtain rfl:=hw.symm
 clear hw
 go_wp2_with fail
 refine (ae HQ).mono ?_
 rintro e w2 ⟨v1,v2,rfl,hv1,-,hb2,-⟩
 have ALL:=af (And.intro hv1 hb2)
 clear hv1 hb2
 go_wp2
 go_ret
 exact⟨v1,rfl,(ae ALL).1,(ae ALL).2⟩))
theorem zqz {lo:Nat} {W w':World} {vx vy v2:Value} {X Y:Nat} (hp:zmr lo W vx vy X Y) (hY:0<Y) (hle:Y≤X) (hlo:lo≤W.heap.size) (h2:Sl .u64 w' v2 (wd 18446744073709551616 (X%Y))) (hb:But [] W w') (he:q9 W vx w' v2):Less lo W X Y (.returned (.tuple #[vy,v2])) w' :=
 ⟨vy,v2,Y,X%Y,rfl,⟨hp.s2.ah hb,h2,hp.o2.but hp.s2 hb,he.own hp.o1 hlo hp.s1 hb,fun b off n c b' off' n' c' e1 e2=>by
  have hpos:0<(wd 18446744073709551616 Y).length:=by rw[Nat.pos_iff_ne_zero];intro e;rw[ze (by omega)] at e;omega
  have h4:=hp.s2.lt hpos b off n c e1
  rcases he _ _ _ _ e2 with ⟨h3,-⟩|⟨o0,n0,c0,e0,-,-⟩
  ·omega
  ·exact fun e=>hp.ap _ _ _ _ _ _ _ _ e0 e1 e.symm⟩,Nat.le_of_lt (Nat.mod_lt _ hY),Nat.mod_lt _ hY,hle,zpb X Y,[],by simp,hb⟩
theorem Less.pre {lo:Nat} {w W:World} {X Y:Nat} {e:Ending} {w':World} (h:Less lo W X Y e w') (hb:But [] w W):Less lo w X Y e w':=by
 obtain⟨v1,v2,X',Y',h1,h2,h3,h4,h5,h6,l,h7,h8⟩:=h
 exact⟨v1,v2,X',Y',h1,h2,h3,h4,h5,h6,l,h7,(But.of_nil hb).trans h8 (fun x hx=>.inl hx)⟩
theorem zgi (lo:Nat) (vx vy:Value) (X Y:Nat) (w:World) (hp:zmr lo w vx vy X Y) (h2:2≤(wd 18446744073709551616 Y).length) (hle:Y≤X) (hl:(wd 18446744073709551616 X).length≤1000000) (hlo:lo≤w.heap.size) :
   Calls prog 207 #[vx,vy] w fun e w'=>Less lo w X Y e w':=by(
 have hlen:=au hle
 have hY:0<Y:=by
  rcases Nat.eq_zero_or_pos Y with h | h
  ·subst h;rw[zh] at h2;simp at h2
  ·exact h
 have HQ:=af (fun (W:World) (h:zmr lo W vx vy X Y)=>zca vx vy X Y W h.s1 h.s2 hY (by omega) (by omega) (Short.of X Y hl))
 have HT:=af (fun (W:World) (h:zmr lo W vx vy X Y) xx xy yx yy back=>zxh lo vx vy X Y xx xy yx yy back W h h2 hle (by omega))
 have HS:=af (fun (h:(wd 18446744073709551616 X).length<(wd 18446744073709551616 Y).length+2)=>zqb vx vy X Y w hp.s1 hp.s2 h2 h hle (by omega))
 have HP:=af hp
 obtain⟨a1,c1,rfl,-,-⟩:=hp.s1
 obtain⟨a2,c2,rfl,-,-⟩:=hp.s2
 clear hp
 have HLO:=af hlo
 clear hlo
 generalize (wd 18446744073709551616 X).length=nx at *
 generalize (wd 18446744073709551616 Y).length=ny at *
 by_cases hn:nx<ny+2
 ·(
 go_enter func207,ntmps207
 go_wp2_with fail
 refine (ae HS hn).mono ?_
 rintro e w1 ⟨xx,xy,yx,yy,back,rfl,hxx,hxy,hyx,hyy,hok,hb1⟩
 have HOK:=af hok
 have HB1:=af hb1
 clear hok hb1 HS
 have BW:Hid (But [] w (w1.alloc (.cells #[.int .u64 (xx:Int),.int .u64 (xy:Int),.int .u64 (yx:Int),.int .u64 (yy:Int),.bool back] 276))):=(ae HB1).alloc _
 by_cases h0:xy=0
 ·(
 subst h0
 go_wp2_with fail
 refine (ae HQ _ ((ae HP).but (ae BW))).mono ?_
 rintro e w2 ⟨v1,v2,rfl,-,hv2,hb2,ho2⟩
 have R:=af ((zqz ((ae HP).but (ae BW)) hY hle (Nat.le_trans (ae HLO) (ae BW).size) hv2 hb2 ho2).pre (ae BW))
 clear hv2 hb2 ho2
 go_wp2
 go_ret2
 exact ae R)
 ·(
 have hz:((xy:Int) != 0)=true:=by simp;exact h0
 go_wp2_with fail
 refine (ae HT _ ((ae HP).but (ae BW)) xx xy yx yy back hxx hxy hyx hyy (ae HOK) h0).mono ?_
 intro e w2 hless
 obtain⟨v1,v2,X',Y',rfl,hrest⟩:=hless
 have R:=af ((show Less lo _ X Y (.returned (.tuple #[v1,v2])) w2 from ⟨v1,v2,X',Y',rfl,hrest⟩).pre (ae BW))
 clear hrest
 go_wp2
 go_ret2
 exact ae R))
 ·(
 go_enter func207,ntmps207
 go_wp2_with fail
 refine (ae HQ _ (ae HP)).mono ?_
 rintro e w2 ⟨v1,v2,rfl,-,hv2,hb2,ho2⟩
 have R:=af (zqz (ae HP) hY hle (ae HLO) hv2 hb2 ho2)
 clear hv2 hb2 ho2
 go_wp2
 go_ret2
 exact ae R))
def zhz (w:World) (X Y:Nat) (Y':Nat) (vx vy:Value) (wr:World):Prop:=∃ X',Sl .u64 wr vx (wd 18446744073709551616 X')∧Sl .u64 wr vy (wd 18446744073709551616 Y')∧Y'≤X'∧X'≤X∧Nat.gcd X' Y'=Nat.gcd X Y∧But [] w wr∧(2≤(wd 18446744073709551616 Y').length→zmr w.heap.size wr vx vy X' Y')
theorem zim (vx vy:Value) (X Y:Nat) (w:World) (hx:Sl .u64 w vx (wd 18446744073709551616 X)) (hy:Sl .u64 w vy (wd 18446744073709551616 Y)) (hle:Y<X) (h1:1<Y) (hl:(wd 18446744073709551616 X).length≤1000000) (u v:Value) (r:Int) (hcmp:Hid (Calls prog 191 #[u,v] w fun e w'=>e=.returned (.int .i64 r)∧∃ q,w'=w.drewN q)) (huv:(u=vx∧v=vy∧r=1)∨(u=vy∧v=vx∧r=-1)) :
   Calls prog 168 #[u,v] w fun e w'=>∃ v',e=.returned v'∧Sl .u64 w' v' (wd 18446744073709551616 (Nat.gcd X Y))∧But [] w w':=by(
 have hlen:=au (Nat.le_of_lt hle)
 have hYl:0<(wd 18446744073709551616 Y).length:=by rw[Nat.pos_iff_ne_zero];intro e;rw[ze (by omega)] at e;omega
 have HO:=af (fun W (h:Sl .u64 W vy (wd 18446744073709551616 Y))=>dm vy Y W h (by omega) false (by show false=_;simp;omega))
 rcases hx.open with ⟨e,-⟩|⟨-,b1,o1,c1,rfl,hc1,-,-⟩
 ·rw[e,List.length_nil] at hlen;omega
 rcases hy.open with ⟨e,-⟩|⟨-,b2,o2,c2,rfl,hc2,-,-⟩
 ·rw[e] at hYl;simp at hYl
 have HC1:=af (fun W (h:Sl .u64 W (.slice (some ⟨b1,o1,none⟩) (wd 18446744073709551616 X).length c1) (wd 18446744073709551616 X))=>znq b1 o1 c1 (wd 18446744073709551616 X) W h (by omega) (by omega))
 have HC2:=af (fun W (h:Sl .u64 W (.slice (some ⟨b2,o2,none⟩) (wd 18446744073709551616 Y).length c2) (wd 18446744073709551616 Y))=>znq b2 o2 c2 (wd 18446744073709551616 Y) W h (by omega) (by omega))
 have HX:=af hx
 have HY:=af hy
 clear hx hy
 generalize hnx:(wd 18446744073709551616 X).length=nx at *
 generalize hny:(wd 18446744073709551616 Y).length=ny at *
 have NX:=af hnx
 have NY:=af hny
 clear hnx hny
 have n0:((ny:Int)==0)=false:=beq_eq_false_iff_ne.2 (by omega)
 by_cases h2:2≤ny
 ·(
 rcases huv with ⟨rfl,rfl,rfl⟩|⟨rfl,rfl,rfl⟩
 all_goals(
 go_enter func168,ntmps168
 go_wp2_with fail
 refine (ae hcmp).mono ?_
 rintro e w1 ⟨rfl,q,rfl⟩
 go_wp2_with fail
 refine (ae HO _ (by exact ae HY)).mono ?_
 rintro e w1 ⟨rfl,hw⟩
 obtain rfl:=hw.symm
 clear hw
 go_wp2_with fail
 refine (ae HC1 _ (by exact ae HX)).mono ?_
 rintro e w2 ⟨v1,rfl,hv1,hb1,ho1,g1,d1,rfl⟩
 have B1:Hid (But [] w w2):=((But.refl [] _).drewN q).trans' hb1
 have P1:=af (And.intro hv1 ho1)
 clear hv1 hb1 ho1
 go_wp2_with fail
 refine (ae HC2 _ ((ae HY).ah (ae B1))).mono ?_
 rintro e w3 ⟨v2,rfl,hv2,hb2,ho2,g2,d2,rfl⟩
 have hap:g1<w2.heap.size:=(ae P1).1.lt (by rw[ae NX];omega) g1 0 _ _ rfl
 have hap2:w2.heap.size≤g2:=(ho2 _ _ _ _ rfl).1
 have A0:Hid (zhz w X Y Y (.slice (some ⟨g1,0,none⟩) nx d1) (.slice (some ⟨g2,0,none⟩) ny d2) w3) :=
  ⟨X,(ae P1).1.ah hb2,hv2,Nat.le_of_lt hle,Nat.le_refl _,rfl,(ae B1).trans' hb2,fun _=>⟨(ae P1).1.ah hb2,hv2,(ae P1).2.but (ae P1).1 hb2,ho2.mono (ae B1).size,fun b off n c b' off' n' c' e1 e2=>by
   simp only[Value.slice.injEq,Option.some.injEq,Addr.mk.injEq] at e1 e2
   obtain⟨⟨rfl,-⟩,-⟩:=e1
   obtain⟨⟨rfl,-⟩,-⟩:=e2
   omega⟩⟩
 clear hv2 hb2 ho2 P1 B1 HC1 HC2 hap hap2
 go_wp2_with fail
 go_loopg [0,1] Y (fun k p1 p2 wr=>Hid (zhz w X Y k p1 p2 wr))
 case atStart=>exact A0
 case round =>(
 clear A0
 obtain⟨X',hs1,hs2,hYX,hXX,hg,hB,hP⟩:=ae hrel
 have hl1:=au hXX
 have hl2:=au hYX
 have HI:=af (And.intro hs1 (And.intro hs2 (And.intro hYX (And.intro hXX (And.intro hg (And.intro hB hP))))))
 rw[ae NX] at hl1
 by_cases hk2:2≤(wd 18446744073709551616 gk).length
 ·(
 have HL:=af (zgi w.heap.size _ _ X' gk wr (hP hk2) hk2 hYX (by omega) hB.size)
 obtain⟨a1,d1,rfl,-,-⟩:=hs1
 obtain⟨a2,d2,rfl,-,-⟩:=hs2
 clear hrel hg hB hP
 generalize (wd 18446744073709551616 X').length=m1 at *
 generalize (wd 18446744073709551616 gk).length=m2 at *
 go_wp2_with fail
 refine (ae HL).mono ?_
 rintro e w5 ⟨v1,v2,X2,Y2,rfl,hp2,hle2,hlt2,hX2,hg2,l,hlo,hbl⟩
 have R:Hid (zhz w X Y Y2 v1 v2 w5):=⟨X2,hp2.s1,hp2.s2,hle2,by omega,by rw[hg2];exact (ae HI).2.2.2.2.1,(ae HI).2.2.2.2.2.1.trans hbl (fun x hx=>.inr (hlo x hx)),fun _=>hp2⟩
 clear hp2 hg2 hlo hbl
 go_wp2
 go_roundg Y2
 case measure=>exact hlt2
 case rel=>exact R)
 ·(
 rcases Nat.eq_zero_or_pos gk with hz | hz
 ·(
 subst hz
 rw[Nat.gcd_zero_right] at hg
 rw[zh] at hs2
 obtain⟨a1,d1,rfl,-,-⟩:=id hs1
 obtain⟨a2,d2,rfl,-,-⟩:=hs2
 have R:=af (And.intro hs1 hB)
 have HG:=af hg
 clear hrel hg hB hP hs1 hk2 HI hl2
 generalize (wd 18446744073709551616 X').length=m1 at *
 go_wp2
 go_ret
 exact⟨_,rfl,by rw[← ae HG];exact (ae R).1,(ae R).2⟩)
 ·(
 have hkB:gk < 18446744073709551616:=by
  rcases Nat.lt_or_ge gk 18446744073709551616 with h | h
  ·exact h
  ·exact absurd (zcv gk h) hk2
 rcases zem hs2 hkB with ⟨rfl,-⟩|⟨-,b,off,c,rfl,hcell⟩
 ·omega
 have HBY:=af (zfp _ X' gk wr hs1 (by omega) hz hkB)
 have hmB:X' % gk < 18446744073709551616:=Nat.lt_trans (Nat.mod_lt _ hz) hkB
 have GW:=af (fun W=>jm gk (X' % gk) W hkB hmB)
 have hgB:Nat.gcd gk (X' % gk) < 18446744073709551616:=Nat.lt_of_le_of_lt (Nat.gcd_le_left _ hz) hkB
 have HG:Hid (Nat.gcd gk (X' % gk)=Nat.gcd X Y):=by show _=_;rw[zpb];exact hg
 have HOF:=af (fun W=>jc (Nat.gcd gk (X' % gk)) hgB W)
 obtain⟨a1,d1,rfl,-,-⟩:=id hs1
 have HB:=af hB
 clear hrel hg hB hP hs1 hs2 HI hl2
 generalize (wd 18446744073709551616 X').length=m1 at *
 go_wp2_with fail
 refine (ae HBY).mono ?_
 rintro e w5 ⟨v5,rfl,-,hb5⟩
 have hc5:=hb5.ag hcell (by simp)
 have HB5:=af hb5
 clear hb5 hcell
 go_wp2_with fail
 refine (ae GW _).mono ?_
 rintro e w6 ⟨rfl,q6,rfl⟩
 go_wp2_with fail
 refine (ae HOF _).mono ?_
 rintro e w7 ⟨v7,rfl,hv7,hb7,-⟩
 rw[ae HG] at hv7
 have R:=af (And.intro hv7 ((ae HB).trans' ((ae HB5).trans' (((But.refl [] _).drewN q6).trans' hb7))))
 clear hv7 hb7
 go_wp2
 go_ret
 exact⟨v7,rfl,(ae R).1,(ae R).2⟩)))))
 ·(
 rcases huv with ⟨rfl,rfl,rfl⟩|⟨rfl,rfl,rfl⟩
 all_goals(
 go_enter func168,ntmps168
 go_wp2_with fail
 refine (ae hcmp).mono ?_
 rintro e w1 ⟨rfl,q,rfl⟩
 go_wp2_with fail
 refine (ae HO _ (by exact ae HY)).mono ?_
 rintro e w1 ⟨rfl,hw⟩
 obtain rfl:=hw.symm
 clear hw
 have A0:Hid (zhz w X Y Y (.slice (some ⟨b1,o1,none⟩) nx c1) (.slice (some ⟨b2,o2,none⟩) ny c2) (w.drewN q)) :=
  ⟨X,ae HX,ae HY,Nat.le_of_lt hle,Nat.le_refl _,rfl,(But.refl [] _).drewN q,fun h=>by rw[ae NY] at h;omega⟩
 go_wp2_with fail
 go_loopg [0,1] Y (fun k p1 p2 wr=>Hid (zhz w X Y k p1 p2 wr))
 case atStart=>exact A0
 case round =>(
 clear A0
 obtain⟨X',hs1,hs2,hYX,hXX,hg,hB,hP⟩:=ae hrel
 have hl1:=au hXX
 have hl2:=au hYX
 have HI:=af (And.intro hs1 (And.intro hs2 (And.intro hYX (And.intro hXX (And.intro hg (And.intro hB hP))))))
 rw[ae NX] at hl1
 by_cases hk2:2≤(wd 18446744073709551616 gk).length
 ·(
 have HL:=af (zgi w.heap.size _ _ X' gk wr (hP hk2) hk2 hYX (by omega) hB.size)
 obtain⟨a1,d1,rfl,-,-⟩:=hs1
 obtain⟨a2,d2,rfl,-,-⟩:=hs2
 clear hrel hg hB hP
 generalize (wd 18446744073709551616 X').length=m1 at *
 generalize (wd 18446744073709551616 gk).length=m2 at *
 go_wp2_with fail
 refine (ae HL).mono ?_
 rintro e w5 ⟨v1,v2,X2,Y2,rfl,hp2,hle2,hlt2,hX2,hg2,l,hlo,hbl⟩
 have R:Hid (zhz w X Y Y2 v1 v2 w5):=⟨X2,hp2.s1,hp2.s2,hle2,by omega,by rw[hg2];exact (ae HI).2.2.2.2.1,(ae HI).2.2.2.2.2.1.trans hbl (fun x hx=>.inr (hlo x hx)),fun _=>hp2⟩
 clear hp2 hg2 hlo hbl
 go_wp2
 go_roundg Y2
 case measure=>exact hlt2
 case rel=>exact R)
 ·(
 rcases Nat.eq_zero_or_pos gk with hz | hz
 ·(
 subst hz
 rw[Nat.gcd_zero_right] at hg
 rw[zh] at hs2
 obtain⟨a1,d1,rfl,-,-⟩:=id hs1
 obtain⟨a2,d2,rfl,-,-⟩:=hs2
 have R:=af (And.intro hs1 hB)
 have HG:=af hg
 clear hrel hg hB hP hs1 hk2 HI hl2
 generalize (wd 18446744073709551616 X').length=m1 at *
 go_wp2
 go_ret
 exact⟨_,rfl,by rw[← ae HG];exact (ae R).1,(ae R).2⟩)
 ·(
 have hkB:gk < 18446744073709551616:=by
  rcases Nat.lt_or_ge gk 18446744073709551616 with h | h
  ·exact h
  ·exact absurd (zcv gk h) hk2
 rcases zem hs2 hkB with ⟨rfl,-⟩|⟨-,b,off,c,rfl,hcell⟩
 ·omega
 have HBY:=af (zfp _ X' gk wr hs1 (by omega) hz hkB)
 have hmB:X' % gk < 18446744073709551616:=Nat.lt_trans (Nat.mod_lt _ hz) hkB
 have GW:=af (fun W=>jm gk (X' % gk) W hkB hmB)
 have hgB:Nat.gcd gk (X' % gk) < 18446744073709551616:=Nat.lt_of_le_of_lt (Nat.gcd_le_left _ hz) hkB
 have HG:Hid (Nat.gcd gk (X' % gk)=Nat.gcd X Y):=by show _=_;rw[zpb];exact hg
 have HOF:=af (fun W=>jc (Nat.gcd gk (X' % gk)) hgB W)
 obtain⟨a1,d1,rfl,-,-⟩:=id hs1
 have HB:=af hB
 clear hrel hg hB hP hs1 hs2 HI hl2
 generalize (wd 18446744073709551616 X').length=m1 at *
 go_wp2_with fail
 refine (ae HBY).mono ?_
 rintro e w5 ⟨v5,rfl,-,hb5⟩
 have hc5:=hb5.ag hcell (by simp)
 have HB5:=af hb5
 clear hb5 hcell
 go_wp2_with fail
 refine (ae GW _).mono ?_
 rintro e w6 ⟨rfl,q6,rfl⟩
 go_wp2_with fail
 refine (ae HOF _).mono ?_
 rintro e w7 ⟨v7,rfl,hv7,hb7,-⟩
 rw[ae HG] at hv7
 have R:=af (And.intro hv7 ((ae HB).trans' ((ae HB5).trans' (((But.refl [] _).drewN q6).trans' hb7))))
 clear hv7 hb7
 go_wp2
 go_ret
 exact⟨v7,rfl,(ae R).1,(ae R).2⟩))))))
theorem zay (vx vy:Value) (X Y:Nat) (w:World) (hx:Sl .u64 w vx (wd 18446744073709551616 X)) (hy:Sl .u64 w vy (wd 18446744073709551616 Y)) (hlx:(wd 18446744073709551616 X).length≤1000000) (hly:(wd 18446744073709551616 Y).length≤1000000) :
   Calls prog 168 #[vx,vy] w fun e w'=>∃ v',e=.returned v'∧Sl .u64 w' v' (wd 18446744073709551616 (Nat.gcd X Y))∧But [] w w':=by(
 have hcmp:=xu vx vy X Y w hx hy (by omega) (by omega)
 have HX:=af hx
 have HY:=af hy
 rcases zbb X Y with ⟨hlt,hc⟩|⟨heq,hc⟩|⟨hgt,hc⟩
 ·(
 rw[hc] at hcmp
 rcases Nat.lt_or_ge 1 X with h1 | h1
 ·have:=zim vy vx Y X w hy hx hlt h1 hly vx vy (-1) hcmp (.inr ⟨rfl,rfl,rfl⟩)
  rw[Nat.gcd_comm] at this
  exact this
 ·(
 have HC:=af hcmp
 have HO:=af (fun W (h:Sl .u64 W vx (wd 18446744073709551616 X))=>dm vx X W h (by omega) true)
 rcases Nat.eq_zero_or_pos X with h0 | h0
 ·(
 subst h0
 rw[Nat.gcd_zero_left]
 rw[zh] at hx
 obtain⟨a1,c1,rfl,-,-⟩:=hx
 obtain⟨a2,c2,rfl,-,-⟩:=hy
 clear hcmp hc HO
 generalize (wd 18446744073709551616 Y).length=ny at *
 go_enter func168,ntmps168
 go_wp2_with fail
 refine (ae HC).mono ?_
 rintro e w1 ⟨rfl,q,rfl⟩
 go_wp2
 go_ret
 exact⟨_,rfl,ae HY,(But.refl _ _).drewN q⟩)
 ·(
 have hX1:X=1:=by omega
 subst hX1
 rw[Nat.gcd_one_left]
 have hl1:(wd 18446744073709551616 1).length=1:=by rw[zcu 1 (by omega) (by omega)];rfl
 have HO1:=af (fun W h=>ae HO W h (by show true=_;rfl))
 obtain⟨a1,c1,rfl,-,-⟩:=hx
 obtain⟨a2,c2,rfl,-,-⟩:=hy
 clear hcmp hc HO
 rw[hl1] at *
 generalize (wd 18446744073709551616 Y).length=ny at *
 clear hl1
 go_enter func168,ntmps168
 go_wp2_with fail
 refine (ae HC).mono ?_
 rintro e w1 ⟨rfl,q,rfl⟩
 go_wp2_with fail
 refine (ae HO1 _ (by exact ae HX)).mono ?_
 rintro e w1 ⟨rfl,hw⟩
 obtain rfl:=hw.symm
 clear hw
 go_wp2
 go_ret
 exact⟨_,rfl,ae HX,(But.refl _ _).drewN q⟩)))
 ·(
 rw[hc] at hcmp
 have HC:=af hcmp
 subst heq
 rw[Nat.gcd_self]
 obtain⟨a1,c1,rfl,-,-⟩:=hx
 obtain⟨a2,c2,rfl,-,-⟩:=hy
 clear hcmp hc
 generalize (wd 18446744073709551616 X).length=nx at *
 go_enter func168,ntmps168
 go_wp2_with fail
 refine (ae HC).mono ?_
 rintro e w1 ⟨rfl,q,rfl⟩
 go_wp2
 go_ret
 exact⟨_,rfl,ae HX,(But.refl _ _).drewN q⟩)
 ·(
 rw[hc] at hcmp
 rcases Nat.lt_or_ge 1 Y with h1 | h1
 ·exact zim vx vy X Y w hx hy hgt h1 hlx vx vy 1 hcmp (.inl ⟨rfl,rfl,rfl⟩)
 ·(
 have HC:=af hcmp
 have HO:=af (fun W (h:Sl .u64 W vy (wd 18446744073709551616 Y))=>dm vy Y W h (by omega) true)
 rcases Nat.eq_zero_or_pos Y with h0 | h0
 ·(
 subst h0
 rw[Nat.gcd_zero_right]
 rw[zh] at hy
 obtain⟨a1,c1,rfl,-,-⟩:=hx
 obtain⟨a2,c2,rfl,-,-⟩:=hy
 clear hcmp hc HO
 generalize (wd 18446744073709551616 X).length=nx at *
 go_enter func168,ntmps168
 go_wp2_with fail
 refine (ae HC).mono ?_
 rintro e w1 ⟨rfl,q,rfl⟩
 go_wp2
 go_ret
 exact⟨_,rfl,ae HX,(But.refl _ _).drewN q⟩)
 ·(
 have hX1:Y=1:=by omega
 subst hX1
 rw[Nat.gcd_one_right]
 have hl1:(wd 18446744073709551616 1).length=1:=by rw[zcu 1 (by omega) (by omega)];rfl
 have HO1:=af (fun W h=>ae HO W h (by show true=_;rfl))
 obtain⟨a1,c1,rfl,-,-⟩:=hx
 obtain⟨a2,c2,rfl,-,-⟩:=hy
 clear hcmp hc HO
 rw[hl1] at *
 generalize (wd 18446744073709551616 X).length=nx at *
 clear hl1
 go_enter func168,ntmps168
 go_wp2_with fail
 refine (ae HC).mono ?_
 rintro e w1 ⟨rfl,q,rfl⟩
 go_wp2_with fail
 refine (ae HO1 _ (by exact ae HY)).mono ?_
 rintro e w1 ⟨rfl,hw⟩
 obtain rfl:=hw.symm
 clear hw
 go_wp2
 go_ret
 exact⟨_,rfl,ae HY,(But.refl _ _).drewN q⟩))))
theorem zwz (x:Int) (h1:-9223372036854775808≤x) (h2:x<9223372036854775808) (w:World) :
   Calls prog 79 #[.int .i64 x] w fun e w'=>e=.returned (.agg #[.bool (decide (x<0)),.int .u64 ((x.natAbs:Nat):Int),.int .u64 (((1:Nat):Int)-1),.pointer none])∧But [] w w':=by(
 obtain⟨s,hs⟩:∃ s,s=decide (x<0):=⟨_,rfl⟩
 obtain⟨n,hn⟩:∃ n,n=x.natAbs:=⟨_,rfl⟩
 rw[← hs,← hn]
 have HS:=af hs
 have HN:=af hn
 go_enter func79,ntmps79
 go_wp2_with fail
 refine (zka x h1 h2 _).mono ?_
 rintro e w1 ⟨rfl,hw⟩
 obtain rfl:=hw.symm
 go_wp2
 exact bodyPost_ret (v:=.agg #[.bool (decide (x<0)),.int .u64 ((x.natAbs:Nat):Int),.int .u64 0,.pointer none]) (by simp[results,results79,go_sem]) rfl ⟨by rw[ae HS,ae HN];rfl,(But.refl _ _).alloc _⟩)
structure qgn (w:World) (n m:Nat) (ds:List UInt8) (vb vx:Value) (wr:World):Prop where
 words:Sl .u64 wr vx (wd 18446744073709551616 m)
 own:wr.ownsRow w.heap.size 5 1 vb ds.length (ds.map u8v)
 but:But [] w wr
 dig:ko n=ds++ko m
 pos:0<n→0<m
 len:(wd 18446744073709551616 m).length<1048576
theorem zjc (base:Nat) (vo:Value) (ods:List UInt8) (v:Value) (X Wd:Nat) (w:World) (hv:Sl .u64 w v (wd 18446744073709551616 X)) (hX:0<X∨0<Wd) (hl:(wd 18446744073709551616 X).length<1048576) (hd:ods.length+(ko X).length+Wd<1073741000) (ho:w.ownsRow base 5 1 vo ods.length (ods.map u8v)) (hn:vo=.slice none 0 0∨0<ods.length) (hbase:base≤w.heap.size) :
   Calls prog 188 #[vo,v,.int .i64 (Wd:Int)] w fun e w'=>∃ v',e=.returned v'∧w'.ownsRow base 5 1 v' (ods++(jf Wd X).reverse).length ((ods++(jf Wd X).reverse).map u8v)∧Below base w w'∧ky w w':=by(
 have HO:=af ho
 have HN:=af hn
 have HBS:=af hbase
 obtain⟨oa,oc,rfl⟩:=dh ho
 clear ho hn hbase
 have HV:=af hv
 clear hv
 obtain⟨xa,xc,rfl,-,-⟩:=ae HV
 have HX:=af hX
 have HD:=af hd
 clear hX hd
 generalize hno:ods.length=no at *
 have HNO:=af hno
 clear hno
 go_enter func188,ntmps188
 go_wp2
 go_loopg [7,1] X (fun m vb vx wr=>∃ ds:List UInt8,qgn w X m ds vb vx wr)
 case atStart=>exact⟨[],⟨ae HV,World.ownsRow_nil _ _ _ _,But.refl _ _,rfl,fun h=>h,hl⟩⟩
 case round =>(
 obtain⟨ds,hI⟩:=hrel
 rename World=>wr
 obtain⟨hsl,hown,hbut,hdig,hpos,hlen⟩:=hI
 have hdl:ds.length<1073741000:=by have:=congrArg List.length hdig;have h2:=ae HD;rw[List.length_append] at this;omega
 have HSL:=af hsl
 obtain⟨aa,ca,rfl,-,-⟩:=hsl
 have HDG:=af hdig
 have HOWN:=af hown
 have HBUT:=af hbut
 clear hdig hown hbut
 by_cases hm:1<(wd 18446744073709551616 gk).length
 ·(
 have h19:=qaj hm
 obtain⟨m',hm'⟩:∃ m',m'=gk/10000000000000000000:=⟨_,rfl⟩
 obtain⟨r0,hr0⟩:∃ r0,r0=gk%10000000000000000000:=⟨_,rfl⟩
 have hmp:0<m':=by omega
 have hml:(wd 18446744073709551616 m').length≤(wd 18446744073709551616 gk).length:=au (by omega)
 have BW:=af (zpj _ gk 10000000000000000000 wr (ae HSL) (by omega) (by omega) (by omega))
 rw[← hm',← hr0] at BW
 have hDP:Hid (ko gk=bf 19 r0++ko m'):=by
  show _=_
  have h:=zhh 19 gk (by exact h19)
  rw[← zga 19 gk] at h
  rw[hm',hr0]
  exact h
 have hr0l:r0<10000000000000000000:=by omega
 have hlt':m' < gk:=by rw[hm'];exact Nat.div_lt_self (by omega) (by omega)
 have HML:=af hml
 clear hm' hr0 hml h19
 generalize hla:(wd 18446744073709551616 gk).length=la at *
 clear hla
 have hwl:Hid (0<(wd 18446744073709551616 m').length):=by show _<_;rw[Nat.pos_iff_ne_zero];intro e;rw[ze (by omega)] at e;omega
 go_wp2_with fail
 refine (ae BW).mono ?_
 rintro e w2 ⟨v2,rfl,hv2,hb2,hf2⟩
 have HV2:=af hv2
 have HOWN2:=af (uw (ae HOWN) hb2)
 have HBUT2:Hid (But [] w w2):=(ae HBUT).trans' hb2
 have HOFF:Hid (qev u7 v2):=fun k hk b off n c e=>by
  have h1:=((ae HOWN).lt k hk).2
  have h2:=hf2 b off n c e
  omega
 clear hv2 hb2 hf2
 go_wp2_with fail
 go_loopw [7,8,18] (fun vb rest c wq=>∃ j q:Nat,j≤19∧c=.int .i64 j∧rest=.int .u64 q∧q<10000000000000000000∧Hid (q=r0/10^j∧wq.ownsRow w.heap.size 5 1 vb (ds++bf j r0).length ((ds++bf j r0).map u8v)∧But [] w wq∧Sl .u64 wq v2 (wd 18446744073709551616 m')∧qev vb v2)) (fun _ _ c _=>19-(intOf c).toNat)
 case atStart=>exact⟨0,r0,by omega,rfl,rfl,hr0l,by simp,by simpa [bf] using ae HOWN2,ae HBUT2,ae HV2,ae HOFF⟩
 case round =>(
 obtain⟨j,q,hj,rfl,rfl,hq,HI⟩:=hrel
 rename World=>wq
 by_cases hj19:j=19
 ·(
 subst hj19
 have HIK:=af (ae HI).2
 clear HI
 go_wp2
 go_roundg m'
 case measure=>exact hlt'
 case rel =>(
 obtain⟨k1,k2,k3,-⟩:=ae HIK
 refine⟨ds++bf 19 r0,k3,k1,k2,?_,fun _=>hmp,by have:=ae HML;omega⟩
 rw[ae HDG,ae hDP,List.append_assoc]))
 ·(
 have hj2:j<19:=by omega
 obtain⟨dg,hdg⟩:∃ dg,dg=q%10:=⟨_,rfl⟩
 obtain⟨q',hq'⟩:∃ q',q'=q/10:=⟨_,rfl⟩
 have hd10:dg<10:=by omega
 have hq2:q' < 10000000000000000000:=by omega
 have e1:(q:Int)%10=(dg:Int):=by omega
 have e2:(q:Int)/10=(q':Int):=by omega
 have e3:(q:Int).tmod 10=(dg:Int):=by rw[Int.tmod_eq_emod_of_nonneg (by omega)];exact e1
 have e4:(q:Int).tdiv 10=(q':Int):=by rw[Int.tdiv_eq_ediv_of_nonneg (by omega)];exact e2
 have hqj:Hid (q'=r0/10^(j+1)∧bf (j+1) r0=bf j r0++[UInt8.ofNat (48+dg)]):=by
  constructor
  ·rw[hq',(ae HI).1,Nat.div_div_eq_div_mul,Nat.pow_succ]
  ·rw[zmz,← (ae HI).1,← hdg]
 have hld:(ds++bf j r0).length<1073741824:=by rw[List.length_append,zie];omega
 have hAB:=zbu (wq.alloc (.cells #[.int .u8 (48+(dg:Int))] 5)) w.heap.size u7 (ds++bf j r0) ((ae HI).2.1.alloc _) ⟨wq.heap.size,0,none⟩ (UInt8.ofNat (48+dg)) (by rw[← zhc dg hd10];simp) hld (by have:=(ae HI).2.2.1.size;simp;omega)
 obtain⟨v3,w3,hr3,ho3,hg3,hb3⟩:=hAB
 have hB3:But [] w w3:=((ae HI).2.2.1.alloc _).grown hg3 (fun k hk=>((ae HI).2.1.lt k hk).1)
 obtain⟨hS3,hO3⟩:=(ae HI).2.2.2.2.grow (ae HI).2.2.2.1 (ae hwl) hg3 hb3
 have ALL:=af (And.intro ho3 (And.intro hB3 (And.intro hS3 hO3)))
 have HR3:=af hr3
 clear ho3 hB3 hS3 hO3 hg3 hb3 hr3 hld hdg hq'
 go_wp2_with (at_builtin;refine jb rfl _ _ 185 185 rfl _ _ v3 w3 rfl rfl (ae HR3) ?_)
 refine⟨⟨j+1,q',by omega,by go_num,rfl,hq2,(ae hqj).1,?_,(ae ALL).2.1,(ae ALL).2.2.1,(ae ALL).2.2.2⟩,?_⟩
 ·rw[(ae hqj).2,← List.append_assoc];exact (ae ALL).1
 ·simp[intOf];omega)))
 ·(
 by_cases hg0:gk=0
 ·(
 subst hg0
 have HOWNt:=HOWN
 have HBUTt:=HBUT
 rw[zh,List.length_nil]
 have hdg:=ae HDG
 rw[l6,List.append_nil] at hdg
 clear HSL hlen hpos hm HDG
 have hE:ko X=ds:=hdg
 clear hdg
 have PAD0:Hid (wr.ownsRow w.heap.size 5 1 u7 (ds++List.replicate 0 48).length ((ds++List.replicate 0 48).map u8v)∧But [] w wr):=by
  rw[List.replicate_zero,List.append_nil];exact⟨ae HOWN,ae HBUT⟩
 have HEX:=af hE
 have hel2:ds.length+Wd<1073741000:=by have:=ae HD;rw[hE] at this;omega
 clear hE
 go_wp2_with fail
 go_loopg [7] (Wd-ds.length) (fun k vb wp=>∃ j:Nat,j+k=Wd-ds.length∧Hid (wp.ownsRow w.heap.size 5 1 vb (ds++List.replicate j 48).length ((ds++List.replicate j 48).map u8v)∧But [] w wp))
 case atStart=>exact⟨0,by omega,PAD0⟩
 case round =>(
 clear PAD0
 obtain⟨j,hjk,HP⟩:=hrel
 rename World=>wp
 obtain⟨pa,pc,hpe⟩:=dh (ae HP).1
 have hpl:(ds++List.replicate j 48).length=ds.length+j:=by rw[List.length_append,List.length_replicate]
 by_cases hk0:gk=0
 ·(
 subst hk0
 have hfs:ds++List.replicate j (48:UInt8)=jf Wd X:=by rw[jf,ae HEX,show j=Wd-ds.length from by omega]
 have hfl:0<(jf Wd X).length:=zjn Wd X (ae HX)
 have hown:=(ae HP).1
 rw[hfs] at hown hpl
 obtain⟨g,cg,hg7,hgb,hcg,hrow⟩:=zcl hown hfl
 rw[hg7] at hpe
 subst hg7
 have HGB:=af hgb
 have RV:=af (zic g cg ((jf Wd X).map UInt8.toNat) wp hrow (by simpa using hfl) (by rw[List.length_map];omega))
 rw[List.length_map] at RV
 have BUT:=af (ae HP).2
 have hlw:(jf Wd X).length<1073741000:=by omega
 have hwle:(Wd:Int)≤((jf Wd X).length:Int):=by omega
 have HLW:Hid (no+(jf Wd X).length<1073741000):=by
  have h1:=ae HD
  have h2:=zbh Wd X
  show _<_
  omega
 clear hown hrow hgb hcg HP hfs hfl hpe hpl hjk
 generalize hne:(jf Wd X).length=ne at *
 go_wp2_with fail
 refine (ae RV).mono ?_
 rintro e w4 ⟨rfl,hr4,hb4⟩
 rw[← List.map_reverse] at hr4
 obtain⟨i0,hi,hz0,hz1,hz2⟩:=zjl
 have hB4:But [] w w4:=(ae BUT).trans hb4 (fun x hx=>by simp at hx;subst hx;exact .inr (ae HGB))
 have hO4:=uw (ae HO) hB4
 have hbs:=ae HBS
 have hlw2:=ae HLW
 obtain⟨v5,w5,hr5,ho5,hg5,-⟩:=run_append_own (P:=prog) w4 base 185 185 5 i0 (.int .u8 0) 1 1 underlying185 hi hz0 hz1 hz2 rfl (by decide) (.slice oa no oc) no (ods.map u8v) hO4 ⟨g,0,none⟩ ne cg ((jf Wd X).reverse.map u8v) (by rw[List.length_map,List.length_reverse,hne,Nat.mul_one]) (zkf hr4) (fun u hu=>by obtain⟨x,-,rfl⟩:=List.mem_map.1 hu;rfl) (by unfold maxLen;omega) (by omega) (Nat.le_trans hbs hB4.size)
 have hK:ky w w5:=(ky.zhl hB4).trans (zku (ods:=ods) (by rw[ae HNO];exact hO4) (by rw[ae HNO];exact ae HN) hg5)
 have hBe:Below base w w5:=jr (hB4.zcs hbs) (below_grown hO4 (Nat.le_trans hbs hB4.size) hg5)
 have ALL:=af (And.intro ho5 (And.intro hBe hK))
 have HR5:=af hr5
 clear ho5 hBe hK hr5 hg5 hr4 hb4 hB4 hO4 hi hz0 hz1 hz2 hbs hlw2
 go_wp2_with (at_builtin;refine jb rfl _ _ 185 185 rfl _ _ v5 w5 rfl rfl (ae HR5) ?_)
 go_ret
 refine⟨v5,rfl,?_,(ae ALL).2.1,(ae ALL).2.2⟩
 rw[List.length_append,List.length_reverse,hne,ae HNO,List.map_append]
 exact (ae ALL).1)
 ·(
 have hAB:=zbu (wp.alloc (.cells #[.int .u8 48] 5)) w.heap.size u7 (ds++List.replicate j 48) ((ae HP).1.alloc _) ⟨wp.heap.size,0,none⟩ 48 (by simp[u8v]) (by omega) (by have:=(ae HP).2.size;simp;omega)
 obtain⟨v3,w3,hr3,ho3,hg3,-⟩:=hAB
 have hB3:But [] w w3:=((ae HP).2.alloc _).grown hg3 (fun k hk=>((ae HP).1.lt k hk).1)
 rw[List.append_assoc,← List.replicate_succ'] at ho3
 have ALL:=af (And.intro ho3 hB3)
 rw[hpe] at hr3
 have HR3:=af hr3
 subst hpe
 have hlt:((ds++List.replicate j (48:UInt8)).length:Int)<(Wd:Int):=by omega
 have hrl:j+1+(gk-1)=Wd-ds.length:=by omega
 have HRL:=af hrl
 clear ho3 hB3 hg3 hr3 hjk hpl HP hrl
 generalize (ds++List.replicate j (48:UInt8)).length=np at *
 go_wp2_with (at_builtin;refine jb rfl _ _ 185 185 rfl _ _ v3 w3 rfl rfl (ae HR3) ?_)
 go_roundg (gk-1)
 case measure=>omega
 case rel=>exact⟨j+1,ae HRL,ae ALL⟩)))
 have hpos:0<gk:=by omega
 have hl1:(wd 18446744073709551616 gk).length=1:=by
  have:(wd 18446744073709551616 gk).length≠0:=by intro e;rw[ze (by omega)] at e;omega
  omega
 have hgB:gk < 18446744073709551616:=by
  have:=ak (B:=18446744073709551616) (by omega) gk 1 (by omega)
  rw[Nat.pow_one] at this;exact this
 have hcell:∃ b off,aa=some ⟨b,off,none⟩∧wr.cell? ⟨b,off,none⟩=some (.int .u64 (gk:Int)):=by
  rcases (ae HSL).open with ⟨e,-⟩|⟨-,b,off,c,e,-,-,hc⟩
  ·rw[e] at hl1;simp at hl1
  ·simp only[Value.slice.injEq] at e
   have h:=hc 0 (by omega)
   rw[Nat.add_zero,zcu gk hpos hgB] at h
   exact⟨b,off,e.1,h⟩
 obtain⟨b,off,rfl,hc0⟩:=hcell
 have HCUR:=af hpos
 rw[hl1]
 clear hm hl1 hlen HSL
 go_wp2
 go_loopg [7,9] gk (fun m vb rest wq=>∃ es:List UInt8,rest=.int .u64 (m:Int)∧m < 18446744073709551616∧Hid (ko X=es++ko m∧wq.ownsRow w.heap.size 5 1 vb es.length (es.map u8v)∧But [] w wq))
 case atStart=>exact⟨ds,rfl,hgB,ae HDG,ae HOWN,ae HBUT⟩
 case round =>(
 obtain⟨es,rfl,hmB,HI⟩:=hrel
 rename World=>wq
 clear hc0
 have hel:es.length<1073741000:=by have:=congrArg List.length (ae HI).1;have h2:=ae HD;rw[List.length_append] at this;omega
 by_cases h0:gk=0
 ·(
 subst h0
 have hE0:ko X=es:=by have:=(ae HI).1;rw[l6,List.append_nil] at this;exact this
 have hE:ko X=es:=hE0
 clear hE0
 have PAD0:Hid (wq.ownsRow w.heap.size 5 1 u7 (es++List.replicate 0 48).length ((es++List.replicate 0 48).map u8v)∧But [] w wq):=by
  rw[List.replicate_zero,List.append_nil];exact⟨(ae HI).2.1,(ae HI).2.2⟩
 have HEX:=af hE
 have hel2:es.length+Wd<1073741000:=by have:=ae HD;rw[hE] at this;omega
 clear hE
 go_wp2_with fail
 go_loopg [7] (Wd-es.length) (fun k vb wp=>∃ j:Nat,j+k=Wd-es.length∧Hid (wp.ownsRow w.heap.size 5 1 vb (es++List.replicate j 48).length ((es++List.replicate j 48).map u8v)∧But [] w wp))
 case atStart=>exact⟨0,by omega,PAD0⟩
 case round =>(
 clear PAD0
 obtain⟨j,hjk,HP⟩:=hrel
 rename World=>wp
 obtain⟨pa,pc,hpe⟩:=dh (ae HP).1
 have hpl:(es++List.replicate j 48).length=es.length+j:=by rw[List.length_append,List.length_replicate]
 by_cases hk0:gk=0
 ·(
 subst hk0
 have hfs:es++List.replicate j (48:UInt8)=jf Wd X:=by rw[jf,ae HEX,show j=Wd-es.length from by omega]
 have hfl:0<(jf Wd X).length:=zjn Wd X (ae HX)
 have hown:=(ae HP).1
 rw[hfs] at hown hpl
 obtain⟨g,cg,hg7,hgb,hcg,hrow⟩:=zcl hown hfl
 rw[hg7] at hpe
 subst hg7
 have HGB:=af hgb
 have RV:=af (zic g cg ((jf Wd X).map UInt8.toNat) wp hrow (by simpa using hfl) (by rw[List.length_map];omega))
 rw[List.length_map] at RV
 have BUT:=af (ae HP).2
 have hlw:(jf Wd X).length<1073741000:=by omega
 have hwle:(Wd:Int)≤((jf Wd X).length:Int):=by omega
 have HLW:Hid (no+(jf Wd X).length<1073741000):=by
  have h1:=ae HD
  have h2:=zbh Wd X
  show _<_
  omega
 clear hown hrow hgb hcg HP hfs hfl hpe hpl hjk
 generalize hne:(jf Wd X).length=ne at *
 go_wp2_with fail
 refine (ae RV).mono ?_
 rintro e w4 ⟨rfl,hr4,hb4⟩
 rw[← List.map_reverse] at hr4
 obtain⟨i0,hi,hz0,hz1,hz2⟩:=zjl
 have hB4:But [] w w4:=(ae BUT).trans hb4 (fun x hx=>by simp at hx;subst hx;exact .inr (ae HGB))
 have hO4:=uw (ae HO) hB4
 have hbs:=ae HBS
 have hlw2:=ae HLW
 obtain⟨v5,w5,hr5,ho5,hg5,-⟩:=run_append_own (P:=prog) w4 base 185 185 5 i0 (.int .u8 0) 1 1 underlying185 hi hz0 hz1 hz2 rfl (by decide) (.slice oa no oc) no (ods.map u8v) hO4 ⟨g,0,none⟩ ne cg ((jf Wd X).reverse.map u8v) (by rw[List.length_map,List.length_reverse,hne,Nat.mul_one]) (zkf hr4) (fun u hu=>by obtain⟨x,-,rfl⟩:=List.mem_map.1 hu;rfl) (by unfold maxLen;omega) (by omega) (Nat.le_trans hbs hB4.size)
 have hK:ky w w5:=(ky.zhl hB4).trans (zku (ods:=ods) (by rw[ae HNO];exact hO4) (by rw[ae HNO];exact ae HN) hg5)
 have hBe:Below base w w5:=jr (hB4.zcs hbs) (below_grown hO4 (Nat.le_trans hbs hB4.size) hg5)
 have ALL:=af (And.intro ho5 (And.intro hBe hK))
 have HR5:=af hr5
 clear ho5 hBe hK hr5 hg5 hr4 hb4 hB4 hO4 hi hz0 hz1 hz2 hbs hlw2
 go_wp2_with (at_builtin;refine jb rfl _ _ 185 185 rfl _ _ v5 w5 rfl rfl (ae HR5) ?_)
 go_ret
 refine⟨v5,rfl,?_,(ae ALL).2.1,(ae ALL).2.2⟩
 rw[List.length_append,List.length_reverse,hne,ae HNO,List.map_append]
 exact (ae ALL).1)
 ·(
 have hAB:=zbu (wp.alloc (.cells #[.int .u8 48] 5)) w.heap.size u7 (es++List.replicate j 48) ((ae HP).1.alloc _) ⟨wp.heap.size,0,none⟩ 48 (by simp[u8v]) (by omega) (by have:=(ae HP).2.size;simp;omega)
 obtain⟨v3,w3,hr3,ho3,hg3,-⟩:=hAB
 have hB3:But [] w w3:=((ae HP).2.alloc _).grown hg3 (fun k hk=>((ae HP).1.lt k hk).1)
 rw[List.append_assoc,← List.replicate_succ'] at ho3
 have ALL:=af (And.intro ho3 hB3)
 rw[hpe] at hr3
 have HR3:=af hr3
 subst hpe
 have hlt:((es++List.replicate j (48:UInt8)).length:Int)<(Wd:Int):=by omega
 have hrl:j+1+(gk-1)=Wd-es.length:=by omega
 have HRL:=af hrl
 clear ho3 hB3 hg3 hr3 hjk hpl HP hrl
 generalize (es++List.replicate j (48:UInt8)).length=np at *
 go_wp2_with (at_builtin;refine jb rfl _ _ 185 185 rfl _ _ v3 w3 rfl rfl (ae HR3) ?_)
 go_roundg (gk-1)
 case measure=>omega
 case rel=>exact⟨j+1,ae HRL,ae ALL⟩)))
 ·(
 have hp:0<gk:=by omega
 obtain⟨dg,hdg⟩:∃ dg,dg=gk%10:=⟨_,rfl⟩
 obtain⟨q',hq'⟩:∃ q',q'=gk/10:=⟨_,rfl⟩
 have hd10:dg<10:=by omega
 have hq2:q' < 18446744073709551616:=by omega
 have hlt':q' < gk:=by omega
 have e0:((gk:Int) != 0)=true:=by simp;omega
 have e1:(gk:Int)%10=(dg:Int):=by omega
 have e2:(gk:Int)/10=(q':Int):=by omega
 have e3:(gk:Int).tmod 10=(dg:Int):=by rw[Int.tmod_eq_emod_of_nonneg (by omega)];exact e1
 have e4:(gk:Int).tdiv 10=(q':Int):=by rw[Int.tdiv_eq_ediv_of_nonneg (by omega)];exact e2
 have hqj:Hid (ko X=(es++[UInt8.ofNat (48+dg)])++ko q'):=by
  show _=_
  rw[(ae HI).1,om hp,← hdg,← hq',List.append_assoc];rfl
 have hAB:=zbu (wq.alloc (.cells #[.int .u8 (48+(dg:Int))] 5)) w.heap.size u7 es ((ae HI).2.1.alloc _) ⟨wq.heap.size,0,none⟩ (UInt8.ofNat (48+dg)) (by rw[← zhc dg hd10];simp) (by omega) (by have:=(ae HI).2.2.size;simp;omega)
 obtain⟨v3,w3,hr3,ho3,hg3,-⟩:=hAB
 have hB3:But [] w w3:=((ae HI).2.2.alloc _).grown hg3 (fun k hk=>((ae HI).2.1.lt k hk).1)
 have ALL:=af (And.intro ho3 hB3)
 have HR3:=af hr3
 clear ho3 hB3 hg3 hr3 hdg hq'
 go_wp2_with (at_builtin;refine jb rfl _ _ 185 185 rfl _ _ v3 w3 rfl rfl (ae HR3) ?_)
 go_roundg q'
 case measure=>exact hlt'
 case rel=>exact⟨_,rfl,hq2,ae hqj,(ae ALL).1,(ae ALL).2⟩)))))
def zy (j:Nat):Nat:=10^(608*2^j)
theorem zms:zy 0=10^608:=by unfold zy;rw[Nat.pow_zero,Nat.mul_one]
theorem zep (j:Nat):zy (j+1)=zy j*zy j:=by
 unfold zy
 rw[← Nat.pow_add,Nat.pow_succ,← Nat.mul_two,Nat.mul_assoc]
theorem zju (j:Nat):0<zy j:=Nat.pow_pos (by omega)
theorem qfe (j:Nat):j<zy j:=by(
 unfold zy
 have h1:j<2^j:=Nat.lt_two_pow_self
 have h2:608*2^j<10^(608*2^j):=Nat.lt_pow_self (by omega)
 omega)
theorem zjv (X j n:Nat) (hl:(wd 18446744073709551616 X).length≤n) (h:zy j≤X):1824*2^j<64*n:=by(
 have h1:X < 18446744073709551616^n:=ak (by omega) X _ hl
 have h2:(2:Nat)^(1824*2^j)≤zy j:=by
  unfold zy
  have e:(2:Nat)^(1824*2^j)=(2^3)^(608*2^j):=by rw[← Nat.pow_mul,← Nat.mul_assoc]
  rw[e]
  exact Nat.pow_le_pow_left (by omega) _
 have h3:(18446744073709551616:Nat)^n=2^(64*n):=by rw[Nat.pow_mul]
 rw[h3] at h1
 have h4:(2:Nat)^(1824*2^j)<2^(64*n):=Nat.lt_of_le_of_lt h2 (Nat.lt_of_le_of_lt h h1)
 exact (Nat.pow_lt_pow_iff_right (by omega:1<2)).1 h4)
theorem qdc:∃ i,prog.info? 103 = some i∧i.zero=some (.slice none 0 0)∧i.size=1∧i.bytes=24:=by(
 have h:(prog.info? 103).map (fun i=>(i.zero,i.size,i.bytes))=some (some (.slice none 0 0),1,24):=by kernel_rfl
 obtain⟨i,hi,he⟩:=Option.map_eq_some_iff.1 h
 simp only[Prod.mk.injEq] at he
 exact⟨i,hi,he.1,he.2.1,he.2.2⟩)
theorem zmj {w w':World} {base:Nat} {e:TypeId} {vo:Value} {n:Nat} {xs:List Value} (ho:w.ownsRow base e 1 vo n xs) (hn:vo=.slice none 0 0∨∃ u,xs[0]? = some u∧∀ m:Int,u≠.int .u64 m) (hg:w.grownBy w' vo.ownBlock):ky w w':=by(
 intro v ws hs
 cases hb:vo.ownBlock with
 | none=>rw[hb] at hg;exact hs.ah (ou hg)
 | some g =>
  rw[hb] at hg
  rcases hn with rfl|⟨u,hu,hne⟩
  ·simp[Value.ownBlock] at hb
  ·have hc:=ho.cells hb 0 u hu
   rw[show (⟨g,0,none⟩:Addr).add 0=⟨g,0,none⟩ from by simp[Addr.add]] at hc
   exact hs.over (zew hg) hc hne)
structure zbv (w:World) (X:Nat) (us:List Value) (vo vp:Value) (wr:World):Prop where
 own:wr.ownsRow w.heap.size 103 1 vo us.length us
 all:∀ j u,us[j]? = some u→Sl .u64 wr u (wd 18446744073709551616 (zy j))
 pow:Sl .u64 wr vp (wd 18446744073709551616 (zy us.length))
 but:But [] w wr
 low:∀ j,j<us.length→zy j≤X
 nil:vo=.slice none 0 0∨0<us.length
theorem zbv.le {w:World} {X:Nat} {us:List Value} {vo vp:Value} {wr:World} (h:zbv w X us vo vp wr):us.length≤X:=by(
 rcases Nat.eq_zero_or_pos us.length with h0 | h0
 ·omega
 ·have h1:=h.low (us.length-1) (by omega)
  have h2:=qfe (us.length-1)
  omega)
theorem zbv.first {w:World} {X:Nat} {us:List Value} {vo vp:Value} {wr:World} (h:zbv w X us vo vp wr):vo=.slice none 0 0∨∃ u,us[0]? = some u∧∀ m:Int,u≠.int .u64 m:=by(
 rcases h.nil with h0 | h0
 ·exact .inl h0
 ·(
 refine .inr ⟨us[0],List.getElem?_eq_getElem h0,fun m e=>?_⟩
 have:=h.all 0 us[0] (List.getElem?_eq_getElem h0)
 rw[e] at this
 obtain⟨a,c,h1,-⟩:=this
 simp at h1))
theorem zbv.drewN {w:World} {X:Nat} {us:List Value} {vo vp:Value} {wr:World} (h:zbv w X us vo vp wr) (q:Nat):zbv w X us vo vp (wr.drewN q) :=
 ⟨uw h.own ((But.refl [] _).drewN q),fun j u hj=>(h.all j u hj).ah ((But.refl [] _).drewN q),h.pow.ah ((But.refl [] _).drewN q),h.but.drewN q,h.low,h.nil⟩
theorem zbv.qjy {w:World} {X:Nat} {us:List Value} {vo vp:Value} {wr:World} (h:zbv w X us vo vp wr):(wd 18446744073709551616 (zy us.length)).length≤(wd 18446744073709551616 X).length+(wd 18446744073709551616 X).length+33:=by(
 rcases Nat.eq_zero_or_pos us.length with h0 | h0
 ·rw[h0,zms]
  have:=aj (B:=18446744073709551616) (by omega) _ _ qai
  omega
 ·(
 obtain⟨j,hj⟩:∃ j,us.length=j+1:=⟨us.length-1,by omega⟩
 have h1:=au (h.low j (by omega))
 have h2:=qi (zy j) (zy j)
 rw[hj,zep]
 omega))
theorem zbv.more {w:World} {X:Nat} {us:List Value} {vo vp:Value} {wr:World} (h:zbv w X us vo vp wr) (hle:zy us.length≤X) (hul:us.length<35088) (W:World) (hW:W=wr.alloc (.cells #[vp] 103)) :
   ∃ v3 w3,(Builtin.append_ #[187,187] 187 #[vo,.slice (some ⟨wr.heap.size,0,none⟩) 1 1]).run prog W=.ok v3 w3∧w3.ownsRow w.heap.size 103 1 v3 (us++[vp]).length (us++[vp])∧(∀ j u,(us++[vp])[j]? = some u→Sl .u64 w3 u (wd 18446744073709551616 (zy j)))∧Sl .u64 w3 vp (wd 18446744073709551616 (zy us.length))∧But [] w w3∧(∀ j,j<(us++[vp]).length→zy j≤X)∧ky wr w3:=by(
 obtain⟨i0,hi,hz0,hz1,hz2⟩:=qdc
 subst hW
 have hp1:vp.oneCell'=true:=by
  obtain⟨a,c,rfl,-⟩:=h.pow
  rfl
 have hc:(wr.alloc (.cells #[vp] 103)).cell? ⟨wr.heap.size,0,none⟩=some vp:=by simp
 have hbs:=h.but.size
 obtain⟨v3,w3,hr,ho,hg,-⟩:=run_append_own (P:=prog) (wr.alloc (.cells #[vp] 103)) w.heap.size 187 187 103 i0 (.slice none 0 0) 1 24 underlying187 hi hz0 hz1 hz2 rfl (by decide) vo us.length us (h.own.alloc _) ⟨wr.heap.size,0,none⟩ 1 1 [vp] rfl (fun j u hj=>by
  cases j with
  | zero=>simp at hj;subst hj;rw[show (⟨wr.heap.size,0,none⟩:Addr).add 0=⟨wr.heap.size,0,none⟩ from by simp[Addr.add]];exact hc
  | succ j=>simp at hj) (fun u hu=>by simp at hu;subst hu;exact hp1) (by unfold maxLen;omega) (by omega) (by simp;omega)
 have hK:ky wr w3:=(ky.zhl ((But.refl [] wr).alloc _)).trans (zmj (h.own.alloc _) h.first hg)
 refine⟨v3,w3,hr,by rw[List.length_append];exact ho,fun j u hj=>?_,hK _ _ h.pow,(h.but.alloc _).grown hg (fun k hk=>(h.own.lt k hk).1),fun j hj=>?_,hK⟩
 ·(
 rcases Nat.lt_or_ge j us.length with hl | hl
 ·rw[List.getElem?_append_left hl] at hj
  exact hK _ _ (h.all j u hj)
 ·(
 have he:j=us.length:=by
  have:=(List.getElem?_eq_some_iff.1 hj).1
  simp at this
  omega
 subst he
 simp at hj
 subst hj
 exact hK _ _ h.pow))
 ·simp at hj
  rcases Nat.lt_or_ge j us.length with hl | hl
  ·exact h.low j hl
  ·rw[show j=us.length from by omega];exact hle)
theorem zmb (v:Value) (X:Nat) (w:World) (hv:Sl .u64 w v (wd 18446744073709551616 X)) (hl:(wd 18446744073709551616 X).length≤1000000) :
   Calls prog 144 #[v] w fun e w'=>∃ vo us,e=.returned vo∧w'.ownsRow w.heap.size 103 1 vo us.length us∧(∀ j u,us[j]? = some u→Sl .u64 w' u (wd 18446744073709551616 (zy j)))∧But [] w w'∧(∀ j,j<us.length→zy j≤X)∧X<zy us.length:=by(
 have h10:(wd 18446744073709551616 (10^608)).length≤33:=aj (by omega) _ _ qai
 have h1:(wd 18446744073709551616 10).length≤1:=aj (by omega) _ _ (by omega)
 have PW:Hid (∀ (v1:Value) (W:World),Sl .u64 W v1 (wd 18446744073709551616 10)→Calls prog 190 #[v1,.int .i64 608] W fun e w'=>∃ v',e=.returned v'∧Sl .u64 w' v' (wd 18446744073709551616 (zy 0))∧But [] W w'):=fun v1 W h=>by
  rw[zms]
  exact zkp v1 10 608 W h (by omega) (by omega) (Nat.lt_of_le_of_lt (Nat.add_le_add h1 h10) (by omega))
 have HV:=af hv
 have HLX:=af hl
 clear hv h10 h1 hl
 obtain⟨xa,xc,rfl,-,-⟩:=ae HV
 generalize hnx:(wd 18446744073709551616 X).length=nx at *
 have NX:=af hnx
 clear hnx
 go_enter func144,ntmps144
 go_wp2_with fail
 refine (jc 10 (by omega) _).mono ?_
 rintro e w1 ⟨v1,rfl,hv1,hb1,-⟩
 have H1:=af hv1
 have B1:=af hb1
 clear hv1 hb1
 go_wp2_with fail
 refine (ae PW v1 _ (ae H1)).mono ?_
 rintro e w2 ⟨v2,rfl,hv2,hb2⟩
 have A0:Hid (∃ us,zbv w X us (.slice none 0 0) v2 w2∧X+1+us.length=X+1 ):=⟨[],⟨World.ownsRow_nil _ _ _ _,fun j u h=>by simp at h,hv2,(ae B1).trans' hb2,fun j h=>by simp at h,.inl rfl⟩,by simp⟩
 clear hv2 hb2 B1 H1 PW
 go_wp2_with fail
 go_loopg [3,4] (X+1) (fun k vo vp wr=>Hid (∃ us,zbv w X us vo vp wr∧k+us.length=X+1))
 case atStart=>exact A0
 case round =>(
 clear A0
 obtain⟨us,hI,hk⟩:=ae hrel
 clear hrel
 rename World=>wr
 obtain⟨oa,oc,hoe⟩:=dh hI.own
 have hpl:=hI.qjy
 rw[ae NX] at hpl
 have hlx:=ae HLX
 have CM:=af (xu _ _ (zy us.length) X wr hI.pow ((ae HV).ah hI.but) (by omega) (by rw[ae NX];omega))
 obtain⟨pa,pc,hpe,-,-⟩:=id hI.pow
 rcases Nat.lt_or_ge X (zy us.length) with hlt | hge
 ·(
 have hc:zq (zy us.length) X=1:=by
  rcases zbb (zy us.length) X with ⟨h,-⟩|⟨h,-⟩|⟨-,h⟩
  ·omega
  ·omega
  ·exact h
 rw[hc] at CM
 have FIN:=af (And.intro hI (And.intro hlt hoe))
 subst hoe hpe
 clear hI hpl hlt hc hk
 generalize (wd 18446744073709551616 (zy us.length)).length=np at *
 go_wp2_with fail
 refine (ae CM).mono ?_
 rintro e w3 ⟨rfl,q,rfl⟩
 go_wp2
 go_ret
 exact⟨_,us,rfl,(ae FIN).1.own,(ae FIN).1.all,(ae FIN).1.but.drewN q,(ae FIN).1.low,(ae FIN).2.1⟩)
 ·(
 have hc:zq (zy us.length) X≤0:=by
  rcases zbb (zy us.length) X with ⟨-,h⟩|⟨-,h⟩|⟨h,-⟩
  ·omega
  ·omega
  ·omega
 generalize zq (zy us.length) X=r at *
 have hr:decide (r≤0)=true:=by simp;omega
 have hL:us.length≤X:=hI.le
 have h35:=zjv X us.length nx (by rw[ae NX];exact Nat.le_refl _) hge
 have hul:us.length<35088:=Nat.lt_trans Nat.lt_two_pow_self (by omega)
 have HI:=af hI
 have HR:=af (And.intro hk (And.intro hL hge))
 obtain⟨np,hnp⟩:∃ np,np=(wd 18446744073709551616 (zy us.length)).length:=⟨_,rfl⟩
 have NP:=af hnp
 rw[← hnp] at hpe hpl
 have hnp0:0<np:=by
  rw[hnp,Nat.pos_iff_ne_zero];intro e;rw[ze (by omega)] at e
  have:=zju us.length
  omega
 have MO:=af (fun q=>(hI.drewN q).more hge hul _ rfl)
 have MU:=af (fun W (h:Sl .u64 W u4 (wd 18446744073709551616 (zy us.length)))=>qz u4 u4 _ _ W h h (by rw[← hnp];omega))
 rw[← zep] at MU
 clear hI hk hL hge h35 hnp hc
 have SH:=af hoe
 generalize us.length=L at hoe hul
 subst hoe hpe
 have hmul:wrap64 (2*(np:Int))=2*(np:Int):=by unfold wrap64;omega
 go_wp2_with fail
 refine (ae CM).mono ?_
 rintro e w3 ⟨rfl,q,rfl⟩
 obtain⟨v3,w3,hr3,ho3,ha3,hs3,hb3,hl3,hk3⟩:=ae MO q
 have HR3:=af hr3
 have AL:=af (And.intro ho3 (And.intro ha3 (And.intro hs3 (And.intro hb3 hl3))))
 clear hr3 ho3 ha3 hs3 hb3 hl3 hk3 MO
 by_cases hbr:nx<2*np-1
 ·(
 have hbi:(nx:Int)<2*(np:Int)-1:=by omega
 have FIN:Hid (X<zy (us++[Value.slice pa np pc]).length):=by
  have h1:X < 18446744073709551616^nx:=ak (by omega) X _ (Nat.le_of_eq (ae NX))
  have h2:18446744073709551616^(np-1)≤zy us.length:=by
   rcases Nat.lt_or_ge (zy us.length) (18446744073709551616^(np-1)) with h | h
   ·have:=aj (B:=18446744073709551616) (by omega) _ _ h
    rw[← ae NP] at this
    omega
   ·exact h
  show _<_
  rw[List.length_append,List.length_singleton,zep]
  refine Nat.lt_of_lt_of_le h1 (Nat.le_trans ?_ (Nat.mul_le_mul h2 h2))
  rw[← Nat.pow_add]
  exact Nat.pow_le_pow_right (by omega) (by omega)
 clear HI MU CM HR NP SH
 go_wp2_with (at_builtin;refine jb rfl _ _ 187 187 rfl _ _ v3 w3 rfl rfl (ae HR3) ?_)
 go_ret
 exact⟨v3,_,rfl,(ae AL).1,(ae AL).2.1,(ae AL).2.2.2.1,(ae AL).2.2.2.2,ae FIN⟩)
 ·(
 have hbi:¬ ((nx:Int)<2*(np:Int)-1):=by omega
 clear CM
 go_wp2_with (at_builtin;refine jb rfl _ _ 187 187 rfl _ _ v3 w3 rfl rfl (ae HR3) ?_)
 go_wp2_with fail
 refine (ae MU _ (ae AL).2.2.1).mono ?_
 rintro e w4 ⟨v4,rfl,hv4,hb4,-⟩
 have R:Hid (∃ us',zbv w X us' v3 v4 w4∧gk-1+us'.length=X+1):=by
  refine⟨_,⟨uw (ae AL).1 hb4,fun j u hj=>((ae AL).2.1 j u hj).ah hb4,?_,(ae AL).2.2.2.1.trans' hb4,(ae AL).2.2.2.2,.inr (by simp)⟩,?_⟩
  ·rw[List.length_append,List.length_singleton];exact hv4
  ·have:=ae HR
   rw[List.length_append,List.length_singleton]
   omega
 have GK:Hid (0<gk):=by have:=ae HR;show _<_;omega
 clear hv4 hb4 AL HI HR MU NP
 go_wp2
 go_roundg (gk-1)
 case measure=>have:=ae GK;omega
 case rel=>exact ae R))))
theorem TabIs.but {w w':World} (h:Lib.TabIs prog w "internal/strconv.uint64pow10" .u64 Lib.pow10Tab) (hb:But [] w w'):Lib.TabIs prog w' "internal/strconv.uint64pow10" .u64 Lib.pow10Tab :=
 Go.Lib.tabBelow_of_tabIs h w' hb.below
structure Powers (w:World) (vp:Value) (us:List Value):Prop where
 form:∃ a c,vp=.slice a us.length c∧us.length≤c∧∀ j u,us[j]? = some u→∃ g o,a=some ⟨g,o,none⟩∧g<w.heap.size∧w.cell? ⟨g,o+j,none⟩=some u
 all:∀ j u,us[j]? = some u→Sl .u64 w u (wd 18446744073709551616 (zy j))
theorem zxy {w:World} {base:Nat} {vp:Value} {us:List Value} (h:w.ownsRow base 103 1 vp us.length us) (ha:∀ j u,us[j]? = some u→Sl .u64 w u (wd 18446744073709551616 (zy j))):Powers w vp us:=by(
 refine⟨?_,ha⟩
 rcases h.2 with ⟨rfl,h0⟩|⟨g,cap,cur,rfl,h2,h3,h4,-⟩
 ·exact⟨none,0,by rw[h0],by omega,fun j u hj=>by have:=(List.getElem?_eq_some_iff.1 hj).1;omega⟩
 ·refine⟨_,cap,rfl,h4,fun j u hj=>⟨g,0,rfl,(h.lt g rfl).2,?_⟩⟩
  have:=h.cells (g:=g) rfl j u hj
  rw[addr_add] at this
  exact this)
def zpp (L:Nat):Prop:=∀ (base:Nat) (w0:World) (vp:Value) (us:List Value) (vo:Value) (ods:List UInt8) (v:Value) (X Wd:Nat) (w:World),base=w0.heap.size→Powers w0 vp us→us.length=L→Below base w0 w →
 Sl .u64 w v (wd 18446744073709551616 X)→X<zy L→(Wd=0∧0<X∨Wd=608*2^L)→(wd 18446744073709551616 X).length≤1000000→ods.length+(ko X).length+2*(608*2^L)<1073741000→w.ownsRow base 5 1 vo ods.length (ods.map u8v)→(vo=.slice none 0 0∨0<ods.length)→(∀ j u,us[j]? = some u→Sl .u64 w u (wd 18446744073709551616 (zy j))) →
 Calls prog 143 #[vo,v,.int .i64 (Wd:Int),vp] w fun e w'=>∃ v',e=.returned v'∧w'.ownsRow base 5 1 v' (ods++(jf Wd X).reverse).length ((ods++(jf Wd X).reverse).map u8v)∧Below base w w'∧ky w w'
theorem zjd:zpp 0:=by(
 intro base w0 vp us vo ods v X Wd w hbase hP hL hB hv hX hW hl hd ho hn _
 have hbs:base≤w.heap.size:=by rw[hbase];exact hB.size
 have h608:608*2^0=608:=by decide
 rw[h608] at hW hd
 have AS:=af (zjc base vo ods v X Wd w hv (by rcases hW with h | h <;> omega) (by omega) (by rcases hW with h | h <;> omega) ho hn hbs)
 obtain⟨a,c,e,-,-⟩:=hP.form
 rw[hL] at e
 subst e
 obtain⟨xa,xc,rfl,-,-⟩:=hv
 obtain⟨oa,oc,rfl⟩:=dh ho
 clear hX hW hP hL ho hn hB
 generalize (wd 18446744073709551616 X).length=n at *
 generalize ods.length=no at *
 go_enter func143,ntmps143
 go_wp2_with fail
 refine (ae AS).mono ?_
 rintro e w1 ⟨v1,rfl,ho,hb,hk⟩
 have HO:=af (And.intro ho (And.intro hb hk))
 clear ho hb hk
 go_wp2
 go_ret
 exact⟨v1,rfl,(ae HO).1,(ae HO).2.1,(ae HO).2.2⟩)
theorem qah (L:Nat):(wd 18446744073709551616 (zy L)).length≤38*2^L:=by(
 refine aj (by omega) _ _ ?_
 have e:(18446744073709551616:Nat)^(38*2^L)=16^(608*2^L):=by
  rw[show (18446744073709551616:Nat)=16^16 from by decide,← Nat.pow_mul,← Nat.mul_assoc]
 rw[e]
 exact Nat.pow_lt_pow_left (by omega) (by have:0<2^L:=Nat.pow_pos (by omega);omega))
theorem zuu {n:Nat} {w w':World} (h:Below n w w') {g i:Nat} {u:Value} (hg:g<n) (hc:w.cell? ⟨g,i,none⟩=some u):w'.cell? ⟨g,i,none⟩=some u:=(World.cell?_of_block (w:=w) (h.block g hg)).trans hc
theorem Powers.take {w:World} {g o c L:Nat} {us:List Value} (h:Powers w (.slice (some ⟨g,o,none⟩) us.length c) us) (hL:L≤us.length):Powers w (.slice (some ⟨g,o,none⟩) L c) (us.take L):=by(
 have hl:(us.take L).length=L:=by rw[List.length_take];omega
 have hsub:∀ j u,(us.take L)[j]? = some u→us[j]? = some u:=fun j u hj=>by
  have hlt:j<L:=by have:=(List.getElem?_eq_some_iff.1 hj).1;omega
  rw[List.getElem?_take_of_lt hlt] at hj
  exact hj
 obtain⟨a,c',e,h1,h2⟩:=h.form
 simp only[Value.slice.injEq] at e
 obtain⟨rfl,-,rfl⟩:=e
 exact⟨⟨_,c,by rw[hl],by omega,fun j u hj=>h2 j u (hsub j u hj)⟩,fun j u hj=>h.all j u (hsub j u hj)⟩)
theorem zpt (L X Wd:Nat) (hX:X<zy (L+1)) (hW:(Wd=0∧0<X)∨Wd=608*2^(L+1)) (hne:¬ (X/zy L=0∧Wd=0)) :
   (jf Wd X).reverse=(jf (Wd-608*2^L) (X/zy L)).reverse++(jf (608*2^L) (X%zy L)).reverse∧((Wd-608*2^L=0∧0<X/zy L)∨Wd-608*2^L=608*2^L):=by(
 have hp:=zju L
 have e2:608*2^(L+1)=608*2^L+608*2^L:=by rw[Nat.pow_succ];omega
 rcases hW with ⟨rfl,h0⟩ | h
 ·(
 have h1:0<X/zy L:=by
  rcases Nat.eq_zero_or_pos (X/zy L) with h | h
  ·exact absurd ⟨h,rfl⟩ hne
  ·exact h
 have h2:zy L≤X:=by
  rcases Nat.lt_or_ge X (zy L) with h | h
  ·rw[Nat.div_eq_of_lt h] at h1;omega
  ·exact h
 rw[Nat.zero_sub]
 refine⟨?_,.inl ⟨rfl,h1⟩⟩
 rw[zxb (608*2^L) X h2,List.reverse_append];rfl)
 ·rw[h,e2,Nat.add_sub_cancel]
  refine⟨?_,.inr rfl⟩
  rw[zxa (608*2^L) X (by rw[← e2];exact hX),List.reverse_append];rfl)
theorem zje (L:Nat) (IH:zpp L) (hL20:L<20):zpp (L+1):=by(
 intro base w0 vp us vo ods v X Wd w hbase hP hL hB hv hX hW hl hd ho hn hall
 have hp:=zju L
 have e2:608*2^(L+1)=608*2^L+608*2^L:=by rw[Nat.pow_succ];omega
 have hh:X/zy L<zy L:=by rw[Nat.div_lt_iff_lt_mul hp,← zep];exact hX
 have hlo:X%zy L<zy L:=Nat.mod_lt _ hp
 obtain⟨u,hu⟩:∃ u,us[L]? = some u:=⟨us[L],List.getElem?_eq_getElem (by omega)⟩
 obtain⟨a,c,rfl,hc1,hcell⟩:=hP.form
 obtain⟨g,o,rfl,hg,hcu⟩:=hcell L u hu
 rw[hbase.symm] at hg
 have cu:=zuu hB hg hcu
 have hPT:Powers w0 (.slice (some ⟨g,o,none⟩) L c) (us.take L):=hP.take (by omega)
 have hTL:(us.take L).length=L:=by rw[List.length_take];omega
 have hsub:∀ j u,(us.take L)[j]? = some u→us[j]? = some u:=fun j u hj=>by
  have hlt:j<L:=by have:=(List.getElem?_eq_some_iff.1 hj).1;omega
  rw[List.getElem?_take_of_lt hlt] at hj
  exact hj
 obtain⟨D,hD⟩:∃ D,D=608*2^L:=⟨_,rfl⟩
 have rh:(ko (X/zy L)).length≤D:=zbl _ _ (by rw[hD];exact hh)
 have rl:(ko (X%zy L)).length≤D:=zbl _ _ (by rw[hD];exact hlo)
 have lh:(wd 18446744073709551616 (X/zy L)).length≤1000000:=Nat.le_trans (au (Nat.div_le_self _ _)) hl
 have ll:(wd 18446744073709551616 (X%zy L)).length≤1000000:=Nat.le_trans (au (Nat.mod_le _ _)) hl
 have lu:=hall L u hu
 have QR:=af (zca v u X (zy L) w hv lu hp (by omega) (by
  have:=qah L
  have h19:2^L≤2^19:=Nat.pow_le_pow_right (by omega) (by omega)
  omega) (Short.of _ _ hl))
 have hDB:D<1073741000:=by rw[hD];omega
 have hbs:base≤w.heap.size:=by rw[hbase];exact hB.size
 have HDW:Hid (wrap64 (608*2^L)=(D:Int)):=by
  have e:(608:Int)*2^L=(D:Int):=by rw[hD];simp
  show _=_
  rw[e];unfold wrap64;omega
 have hLc:L<c:=by omega
 have i1:(0:Int)≤(L:Int):=by omega
 have i2:(L:Int)≤(c:Int):=by omega
 have i3:(L:Int)≤(L:Int)+1:=by omega
 have HALL:=af hall
 have HO:=af (And.intro ho hn)
 have HB:=af hB
 have IHA:=af (fun ods' vo' v' X' W' W (h1:Below base w0 W) (h2:Sl .u64 W v' (wd 18446744073709551616 X')) (h3:X' < zy L) (h4:W'=0∧0<X'∨W'=608*2^L) (h5:(wd 18446744073709551616 X').length≤1000000) h6 h7 h8 (h9:∀ j u,us[j]? = some u→Sl .u64 W u (wd 18446744073709551616 (zy j)))=>IH base w0 _ _ vo' ods' v' X' W' W hbase hPT hTL h1 h2 h3 h4 h5 h6 h7 h8 (fun j u hj=>h9 j u (hsub j u hj)))
 have HX:=af hX
 have HW:=af hW
 have HD2:=af (And.intro hD (And.intro rh (And.intro rl (And.intro lh (And.intro ll (And.intro hh hlo))))))
 clear hDB
 have HDD:Hid (ods.length+4*D<1073741000):=by show _<_;rw[hD];omega
 obtain⟨xa,xc,rfl,-,-⟩:=hv
 obtain⟨oa,oc,rfl⟩:=dh ho
 rw[hL]
 clear hX hW hP hL ho hn hB IH hPT hTL hsub hall hcell hcu hu hp hc1 hbase hd rh rl lh ll hh hlo e2 hD
 generalize (wd 18446744073709551616 X).length=n at *
 generalize hno:ods.length=no at *
 go_enter func143,ntmps143
 go_wp2_with fail
 refine (ae QR).mono ?_
 rw[ae HDW]
 rintro e1 w1 ⟨v1,v2,rfl,hv1,hv2,hb1,-⟩
 have HV1:=af hv1
 have HV2:=af hv2
 have B1:=af hb1
 have HB1:=af (jr (ae HB) (hb1.zcs hbs))
 obtain⟨ha,hc,rfl,-,-⟩:=hv1
 clear hv2 hb1 QR
 by_cases h0:X/zy L=0∧Wd=0
 ·(
 obtain⟨hq0,hw0⟩:=h0
 have hXL:X%zy L=X:=by
  have:=Nat.div_add_mod X (zy L)
  rw[hq0,Nat.mul_zero,Nat.zero_add] at this
  exact this
 have hX0:0<X:=by
  have hDp:0<608*2^(L+1):=Nat.mul_pos (by omega) (Nat.pow_pos (by omega))
  rcases ae HW with h | h
  ·exact h.2
  ·omega
 have HXL:=af hXL
 have A:=af (ae IHA ods (.slice oa no oc) v2 (X%zy L) 0 w1 (ae HB1) (ae HV2) (ae HD2).2.2.2.2.2.2 (.inl ⟨rfl,by rw[hXL];exact hX0⟩) (ae HD2).2.2.2.2.1 (by have h1:=(ae HD2).2.2.1;have h2:=(ae HD2).1;have h3:=ae HDD;omega) (by rw[hno];exact uw (ae HO).1 (ae B1)) (by rw[hno];exact (ae HO).2) (fun j u hj=>(ae HALL j u hj).ah (ae B1)))
 rw[hq0,zh,List.length_nil]
 subst hw0
 clear hq0 hXL hX0 IHA HV1 HD2 HX HW HALL HO
 go_wp2_with fail
 refine (ae A).mono ?_
 rintro e2 w2 ⟨v3,rfl,ho2,hb2,hk2⟩
 have FIN:=af (And.intro ho2 (And.intro (jr ((ae B1).zcs hbs) hb2) ((ky.zhl (ae B1)).trans hk2)))
 rw[ae HXL] at FIN
 clear ho2 hb2 hk2 A
 go_wp2
 go_ret
 exact⟨v3,rfl,(ae FIN).1,(ae FIN).2.1,(ae FIN).2.2⟩)
 ·(
 obtain⟨f1,f2⟩:=zpt L X Wd (ae HX) (ae HW) h0
 rw[← (ae HD2).1] at f1 f2
 obtain⟨W',hW'⟩:∃ W',W'=Wd-D:=⟨_,rfl⟩
 rw[← hW'] at f1 f2
 have hmax:max ((Wd:Int)-(D:Int)) 0=(W':Int):=by omega
 have hWl:W'≤D:=by omega
 have hWdl:Wd≤2*D:=by
  have e2:608*2^(L+1)=608*2^L+608*2^L:=by rw[Nat.pow_succ];omega
  have:=(ae HD2).1
  rcases ae HW with h | h <;> omega
 have A:=af (ae IHA ods (.slice oa no oc) (.slice ha (wd 18446744073709551616 (X/zy L)).length hc) (X/zy L) W' w1 (ae HB1) (ae HV1) (ae HD2).2.2.2.2.2.1 (by rw[← (ae HD2).1];exact f2) (ae HD2).2.2.2.1 (by have h1:=(ae HD2).2.1;have h2:=(ae HD2).1;have h3:=ae HDD;omega) (by rw[hno];exact uw (ae HO).1 (ae B1)) (by rw[hno];exact (ae HO).2) (fun j u hj=>(ae HALL j u hj).ah (ae B1)))
 have F1:=af f1
 have WL:Hid (0<(jf W' (X/zy L)).length∧(jf W' (X/zy L)).length≤D):=by
  refine⟨zjn _ _ (by have hDp:0<608*2^L:=Nat.mul_pos (by omega) (Nat.pow_pos (by omega));have:=(ae HD2).1;rcases f2 with h | h <;> omega),?_⟩
  rw[zbh]
  have:=(ae HD2).2.1
  omega
 have hh0:((((wd 18446744073709551616 (X/zy L)).length:Int)==0)=true→((Wd:Int)==0)=false):=fun h=>by
  have h1:(wd 18446744073709551616 (X/zy L)).length=0:=by have:=beq_iff_eq.1 h;omega
  rw[ze (by omega)] at h1
  rw[beq_eq_false_iff_ne]
  intro h2
  exact h0 ⟨h1,by omega⟩
 clear f1 f2 h0 hW'
 generalize (wd 18446744073709551616 (X/zy L)).length=nh at *
 have hsub64:wrap64 ((Wd:Int)-(D:Int))=(Wd:Int)-(D:Int):=by have:=ae HDD;unfold wrap64;omega
 by_cases hn0:nh=0
 ·(
 have hne:((Wd:Int)==0)=false:=hh0 (by simp[hn0])
 subst hn0
 clear hh0
 go_wp2_with fail
 refine (ae A).mono ?_
 rintro e2 w2 ⟨v3,rfl,ho2,hb2,hk2⟩
 have HB2:=af (jr (ae HB1) hb2)
 have HV22:=af (hk2 _ _ (ae HV2))
 obtain⟨oa2,oc2,rfl⟩:=dh ho2
 have hol:(ods++(jf W' (X/zy L)).reverse).length=no+(jf W' (X/zy L)).length:=by rw[List.length_append,List.length_reverse,hno]
 have A2:=af (ae IHA (ods++(jf W' (X/zy L)).reverse) (.slice oa2 (ods++(jf W' (X/zy L)).reverse).length oc2) v2 (X%zy L) D w2 (ae HB2) (ae HV22) (ae HD2).2.2.2.2.2.2 (.inr (ae HD2).1) (ae HD2).2.2.2.2.1 (by have h1:=(ae HD2).2.2.1;have h2:=(ae HD2).1;have h3:=ae HDD;have h4:=(ae WL).2;omega) ho2 (.inr (by have h4:=(ae WL).1;omega)) (fun j u hj=>hk2 _ _ ((ae HALL j u hj).ah (ae B1))))
 have K2:=af (And.intro hb2 hk2)
 clear ho2 hb2 hk2 A hol IHA HALL HV22 HB2
 generalize (ods++(jf W' (X/zy L)).reverse).length=no2 at *
 go_wp2_with fail
 refine (ae A2).mono ?_
 rintro e3 w3 ⟨v4,rfl,ho3,hb3,hk3⟩
 have FIN:=af (And.intro ho3 (And.intro (jr ((ae B1).zcs hbs) (jr (ae K2).1 hb3)) (((ky.zhl (ae B1)).trans (ae K2).2).trans hk3)))
 rw[List.append_assoc,← ae F1] at FIN
 clear ho3 hb3 hk3 A2
 go_wp2
 go_ret
 exact⟨v4,rfl,(ae FIN).1,(ae FIN).2.1,(ae FIN).2.2⟩)
 ·(
 have hne:((nh:Int)==0)=false:=beq_eq_false_iff_ne.2 (by omega)
 clear hh0
 go_wp2_with fail
 refine (ae A).mono ?_
 rintro e2 w2 ⟨v3,rfl,ho2,hb2,hk2⟩
 have HB2:=af (jr (ae HB1) hb2)
 have HV22:=af (hk2 _ _ (ae HV2))
 obtain⟨oa2,oc2,rfl⟩:=dh ho2
 have hol:(ods++(jf W' (X/zy L)).reverse).length=no+(jf W' (X/zy L)).length:=by rw[List.length_append,List.length_reverse,hno]
 have A2:=af (ae IHA (ods++(jf W' (X/zy L)).reverse) (.slice oa2 (ods++(jf W' (X/zy L)).reverse).length oc2) v2 (X%zy L) D w2 (ae HB2) (ae HV22) (ae HD2).2.2.2.2.2.2 (.inr (ae HD2).1) (ae HD2).2.2.2.2.1 (by have h1:=(ae HD2).2.2.1;have h2:=(ae HD2).1;have h3:=ae HDD;have h4:=(ae WL).2;omega) ho2 (.inr (by have h4:=(ae WL).1;omega)) (fun j u hj=>hk2 _ _ ((ae HALL j u hj).ah (ae B1))))
 have K2:=af (And.intro hb2 hk2)
 clear ho2 hb2 hk2 A hol IHA HALL HV22 HB2
 generalize (ods++(jf W' (X/zy L)).reverse).length=no2 at *
 go_wp2_with fail
 refine (ae A2).mono ?_
 rintro e3 w3 ⟨v4,rfl,ho3,hb3,hk3⟩
 have FIN:=af (And.intro ho3 (And.intro (jr ((ae B1).zcs hbs) (jr (ae K2).1 hb3)) (((ky.zhl (ae B1)).trans (ae K2).2).trans hk3)))
 rw[List.append_assoc,← ae F1] at FIN
 clear ho3 hb3 hk3 A2
 go_wp2
 go_ret
 exact⟨v4,rfl,(ae FIN).1,(ae FIN).2.1,(ae FIN).2.2⟩)))
theorem zlg (L:Nat) (h:L≤20):zpp L:=by(
 induction L with
 | zero=>exact zjd
 | succ L ih=>exact zje L (ih (by omega)) (by omega))
theorem zwo (X n:Nat) (h:(wd 18446744073709551616 X).length≤n):(ko X).length≤20*n:=by(
 refine zbl X _ (Nat.lt_of_lt_of_le (ak (B:=18446744073709551616) (by omega) X n h) ?_)
 rw[Nat.pow_mul]
 exact Nat.pow_le_pow_left (by decide) _)
theorem zik (v:Value) (X:Nat) (w:World) (hv:Sl .u64 w v (wd 18446744073709551616 X)) (hl:(wd 18446744073709551616 X).length≤1000000) (htab:Lib.TabIs prog w "internal/strconv.uint64pow10" .u64 Lib.pow10Tab) (t:ByteArray) (ht:Hid (t=⟨(Lib.decDigits X).toArray⟩)) :
   Calls prog 63 #[v] w fun e w'=>e=.returned (.string t)∧But [] w w':=by(
 by_cases hu:X < 18446744073709551616
 ·(
 have H:=af htab
 have HW:=af (uy v X hu w hv)
 obtain⟨xa,xc,rfl,-,-⟩:=hv
 clear htab
 generalize (wd 18446744073709551616 X).length=n at *
 go_enter func63,ntmps63
 go_wp2_with fail
 refine (ae HW).mono ?_
 rintro e w1 ⟨rfl,hw⟩
 obtain rfl:=hw.symm
 clear hw
 go_wp2_with fail
 refine (zds X hu _ (ae H) t ht).mono ?_
 rintro e w1 ⟨rfl,hb⟩
 go_wp2
 go_ret
 exact⟨rfl,hb⟩)
 ·(
 have hp:0<X:=by omega
 have HW:=af (oq v X (by omega) w hv (by omega))
 have PF:=af (zmb v X w hv hl)
 have HV:=af hv
 have hdl:=zwo X _ (Nat.le_refl _)
 have AL:Hid (∀ vo us W,W.ownsRow w.heap.size 103 1 vo us.length us→(∀ j u,us[j]? = some u→Sl .u64 W u (wd 18446744073709551616 (zy j)))→But [] w W→(∀ j,j<us.length→zy j≤X)→X<zy us.length →
  Calls prog 143 #[.slice none 0 0,v,.int .i64 0,vo] W fun e w'=>∃ v',e=.returned v'∧w'.ownsRow W.heap.size 5 1 v' (ko X).reverse.length ((ko X).reverse.map u8v)∧But [] W w'):=fun vo us W h1 h2 h3 h4 h5=>by
  have hL:1824*2^us.length<128*1000000+3648:=by
   rcases Nat.eq_zero_or_pos us.length with h0 | h0
   ·rw[h0];omega
   ·obtain⟨j,hj⟩:∃ j,us.length=j+1:=⟨us.length-1,by omega⟩
    have:=zjv X j 1000000 hl (h4 j (by omega))
    rw[hj,Nat.pow_succ]
    omega
  have hL20:us.length≤20:=by
   rcases Nat.lt_or_ge 20 us.length with h | h
   ·have:2^21≤2^us.length:=Nat.pow_le_pow_right (by omega) h
    omega
   ·exact h
  have:=zlg us.length hL20 W.heap.size W vo us (.slice none 0 0) [] v X 0 W rfl (zxy h1 h2) rfl (But.refl [] W).below (hv.ah h3) h5 (.inl ⟨rfl,hp⟩) hl (by simp only[List.length_nil];omega) (World.ownsRow_nil _ _ _ _) (.inl rfl) h2
  rw[zhb] at this
  refine this.mono fun e w' ⟨v',e1,e2,e3,_⟩=>⟨v',e1,by simpa using e2,But.of_below e3⟩
 have hrl:0<(ko X).reverse.length:=by rw[List.length_reverse,om hp];simp
 have HRR:=af (zfz X hp)
 have hrb:(ko X).reverse.length≤20000000:=by rw[List.length_reverse];omega
 obtain⟨xa,xc,rfl,-,-⟩:=hv
 clear htab hu hl hdl
 generalize (wd 18446744073709551616 X).length=n at *
 go_enter func63,ntmps63
 go_wp2_with fail
 refine (ae HW).mono ?_
 rintro e w1 ⟨rfl,hw⟩
 obtain rfl:=hw.symm
 clear hw
 go_wp2_with fail
 refine (ae PF).mono ?_
 rintro e w1 ⟨vo,us,rfl,h1,h2,h3,h4,h5⟩
 have B1:=af h3
 have A1:=af (ae AL vo us w1 h1 h2 h3 h4 h5)
 clear h1 h2 h3 h4 h5 AL PF
 go_wp2_with fail
 refine (ae A1).mono ?_
 rintro e w2 ⟨v2,rfl,ho2,hb2⟩
 have hB2:But [] w w2:=(ae B1).trans' hb2
 obtain⟨g,cg,rfl,hg,hcg,hrow⟩:=zcl ho2 hrl
 have hcv:=run_convert_bytes_back (P:=prog) w2 185 9 5 ⟨g,0,none⟩ cg (ko X).reverse underlying185 underlying5 underlying9 (fun j hj=>zkf hrow j _ (by rw[List.getElem?_map,List.getElem?_eq_getElem hj];rfl))
 rw[ae HRR,← ae ht] at hcv
 rw[ae HRR]
 have HB2:=af hB2
 clear ho2 hb2 hrow hB2 hrl
 generalize (Lib.decDigits X).length=m at *
 go_wp2
 go_ret
 exact⟨rfl,ae HB2⟩))
end Go.Proofs.YtagmkkiagjmimaaGreatDoor
