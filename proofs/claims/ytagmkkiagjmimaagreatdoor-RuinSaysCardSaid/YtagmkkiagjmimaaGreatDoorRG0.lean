/- The greatest common divisor of two words -/
import Derived.Test.YtagmkkiagjmimaaGreatDoorProg
import Derived.WalkKit
import Derived.Deep.QuietTactic
import Derived.BigQuiet
import Derived.Deep.RegionHeld
import Derived.Deep.RegionWith
import Derived.Deep.LoopGhost
import Derived.Test.YtagmkkiagjmimaaGreatDoorRN17a
import Derived.Test.YtagmkkiagjmimaaGreatDoorRN17b
import Derived.Test.YtagmkkiagjmimaaGreatDoorRN36
namespace Go.Proofs.YtagmkkiagjmimaaGreatDoor
open Go.Proofs.Tryz
open Go.RowKit
set_option maxHeartbeats 8000000
set_option maxRecDepth 100000
theorem jr (x y:Nat) (w:World) (hx:x<18446744073709551616) (hy:y<18446744073709551616) :
  Calls prog 133 #[.int .u64 x,.int .u64 y] w fun e w'=>e=.returned (.int .u64 (Nat.gcd x y:Nat))∧∃ n,w'=w.drewN n:=by(
go_enter func133,ntmps133
go_wp2
go_loopw [0,1] (fun a b w'=>∃ p q:Nat,a=.int .u64 p∧b=.int .u64 q∧p<18446744073709551616∧q<18446744073709551616∧Hid (Nat.gcd p q=Nat.gcd x y)∧∃ n,w'=w.drewN n) (fun _ b _=>(intOf b).toNat)
case atStart=>exact⟨x,y,rfl,rfl,hx,hy,(rfl:Nat.gcd x y=Nat.gcd x y),0,rfl⟩
case round =>(
obtain⟨p,q,rfl,rfl,hp,hq,hg,n,rfl⟩:=hrel
by_cases h0:q=0
·subst h0
 go_wp2
 go_ret
 exact⟨by rw[← hg.out];simp,n,rfl⟩
·(
have hb:((q:Int)==0)=false:=by simp;exact h0
have hn:((q:Int) != 0)=true:=by simp;exact h0
go_wp2
go_quiet (fail)
go_roundw
case rel =>(
refine⟨_,_,_,_,_,_,_,_,⟨q,p%q,rfl,?_,hq,?_,?_,n+nq,?_⟩,rfl⟩
·rw[Int.natCast_emod]
·exact Nat.lt_trans (Nat.mod_lt _ (Nat.pos_of_ne_zero h0)) hq
·show Nat.gcd q (p%q)=Nat.gcd x y
 rw[← hg.out,Nat.gcd_comm p q,Nat.gcd_rec q p,Nat.gcd_comm]
·exact World.drewN_drewN _ _ _)
case measure =>(
simp[intOf]
have:=Nat.mod_lt p (Nat.pos_of_ne_zero h0)
omega))))
theorem mg (s:Bool) (p q:Nat) (hq:q<18446744073709551616) (hq0:0<q) (w:World) :
  Calls prog 140 #[.agg #[.bool s,.int .u64 (p:Int),.int .u64 ((q:Int)-1),.pointer none]] w fun e w'=>e=.returned (.int .u64 (q:Int))∧But [] w w':=by(
go_enter func140,ntmps140
go_wp2
go_ret
exact⟨rfl,(But.refl _ _).alloc _⟩)
theorem zmj (x:Int) (h1:-9223372036854775808≤x) (h2:x<9223372036854775808) (w:World) :
  Calls prog 132 #[.int .i64 x] w fun e w'=>e=.returned (.int .u64 (x.natAbs:Nat))∧w'=w:=by(
by_cases hx:x<0
·(
have e1:IntKind.u64.wrap (-IntKind.u64.wrap x)=((x.natAbs:Nat):Int):=by rw[IntKind.wrap_u64,IntKind.wrap_u64];omega
obtain⟨n,hn⟩:∃ n:Nat,n=x.natAbs:=⟨_,rfl⟩
rw[← hn] at e1 ⊢
clear hn
go_enter func132,ntmps132
go_wp2
go_ret
exact⟨rfl,rfl⟩)
·(
obtain⟨n,rfl⟩:=Int.eq_ofNat_of_zero_le (Int.not_lt.1 hx)
rw[Int.natAbs_natCast]
go_enter func132,ntmps132
go_wp2
go_ret
exact⟨rfl,rfl⟩))
theorem zax (s:Bool) (p q:Nat) (hp:p<18446744073709551616) (hq:q<18446744073709551616) (hq0:0<q) (r:Bool) (hr:Hid (r=(s && decide (p≠0)))) (w:World) :
  Calls prog 134 #[.bool s,.int .u64 (p:Int),.int .u64 (q:Int)] w fun e w'=>e=.returned (.agg #[.bool r,.int .u64 (p:Int),.int .u64 ((q:Int)-1),.pointer none])∧But [] w w':=by(
have e:((p:Int) != 0)=decide (p≠0):=by rw[Bool.eq_iff_iff];simp
by_cases h0:p=0
·(
subst h0
have er:Hid (r=false):=by show _=_;rw[ae hr];simp
clear hr e
cases s
all_goals(
go_enter func134,ntmps134
go_wp2
rw[ae er]
exact bodyPost_ret (v:=.agg #[.bool false,.int .u64 ((0:Nat):Int),.int .u64 ((q:Int)-1),.pointer none]) (by simp[results,results134,go_sem]) rfl ⟨rfl,(But.refl _ _).alloc _⟩))
·(
have e1:((p:Int) != 0)=true:=by rw[e];simp[h0]
cases s
·(
have er:Hid (r=false):=by show _=_;rw[ae hr];simp
clear hr e
go_enter func134,ntmps134
go_wp2
rw[ae er]
exact bodyPost_ret (v:=.agg #[.bool false,.int .u64 (p:Int),.int .u64 ((q:Int)-1),.pointer none]) (by simp[results,results134,go_sem]) rfl ⟨rfl,(But.refl _ _).alloc _⟩)
·(
have er:Hid (r=true):=by show _=_;rw[ae hr];simp[h0]
clear hr e
go_enter func134,ntmps134
go_wp2
rw[ae er]
exact bodyPost_ret (v:=.agg #[.bool true,.int .u64 (p:Int),.int .u64 ((q:Int)-1),.pointer none]) (by simp[results,results134,go_sem]) rfl ⟨rfl,(But.refl _ _).alloc _⟩)))
theorem zyl (x y:Int) (hx1:-9223372036854775808≤x) (hx2:x<9223372036854775808) (hy1:-9223372036854775808≤y) (hy2:y<9223372036854775808) (hy0:y≠0) (w:World) (r:Bool) (p q:Nat) (hr:Hid (r=((decide (x<0) != decide (y<0)) && decide (p≠0)))) (hp:Hid (p=x.natAbs/Nat.gcd x.natAbs y.natAbs)) (hq:Hid (q=y.natAbs/Nat.gcd x.natAbs y.natAbs)) :
  Calls prog 60 #[.int .i64 x,.int .i64 y] w fun e w'=>e=.returned (.tuple #[.agg #[.bool r,.int .u64 (p:Int),.int .u64 ((q:Int)-1),.pointer none],.nilIface])∧But [] w w':=by(
have n0:(y==0)=false:=by simp;exact hy0
obtain⟨g,hg⟩:∃ g,g=Nat.gcd x.natAbs y.natAbs:=⟨_,rfl⟩
have hg0:0<g:=by rw[hg];exact Nat.gcd_pos_of_pos_right _ (by omega)
have hgl:g≤y.natAbs:=by rw[hg];exact Nat.gcd_le_right _ (by omega)
have hp':p=x.natAbs/g:=by rw[hg];exact ae hp
have hq':q=y.natAbs/g:=by rw[hg];exact ae hq
have hp64:p<18446744073709551616:=by rw[hp'];exact Nat.lt_of_le_of_lt (Nat.div_le_self _ _) (by omega)
have hq64:q<18446744073709551616:=by rw[hq'];exact Nat.lt_of_le_of_lt (Nat.div_le_self _ _) (by omega)
have hq0:0<q:=by rw[hq'];exact Nat.div_pos hgl hg0
have hgz:((g:Int)==0)=false:=by simp;omega
have hg64:g<18446744073709551616:=by omega
obtain⟨a,ha⟩:∃ a,a=x.natAbs:=⟨_,rfl⟩
obtain⟨b,hb⟩:∃ b,b=y.natAbs:=⟨_,rfl⟩
have ha64:a<18446744073709551616:=by omega
have hb64:b<18446744073709551616:=by omega
have d1:(a:Int)/(g:Int)=(p:Int):=by rw[hp',← ha,Int.natCast_ediv]
have d2:(b:Int)/(g:Int)=(q:Int):=by rw[hq',← hb,Int.natCast_ediv]
have d3:(a:Int).tdiv (g:Int)=(p:Int):=by rw[Int.tdiv_eq_ediv_of_nonneg (by omega)];exact d1
have d4:(b:Int).tdiv (g:Int)=(q:Int):=by rw[Int.tdiv_eq_ediv_of_nonneg (by omega)];exact d2
have d5:IntKind.u64.wrap (p:Int)=(p:Int):=by rw[IntKind.wrap_u64];omega
have d6:IntKind.u64.wrap (q:Int)=(q:Int):=by rw[IntKind.wrap_u64];omega
have HA:=af ha
have HB:=af hb
have HG:=af hg
clear hp' hq' ha hb hg hgl
obtain⟨s1,hs1⟩:∃ s1,s1=decide (x<0):=⟨_,rfl⟩
go_enter func60,ntmps60
go_wp2_with fail
refine (zmj x hx1 hx2 _).mono ?_
rintro e w1 ⟨rfl,hw⟩
obtain rfl:=hw.symm
clear hw
rw[← ae HA]
go_wp2_with fail
refine (zmj y hy1 hy2 _).mono ?_
rintro e w1 ⟨rfl,hw⟩
obtain rfl:=hw.symm
clear hw
rw[← ae HB]
go_wp2_with fail
refine (jr a b _ ha64 hb64).mono ?_
rintro e w1 ⟨rfl,k,rfl⟩
rw[show Nat.gcd a b=g from by rw[ae HA,ae HB,ae HG]]
go_wp2
have hb0:But [] w ((w.alloc (.cells #[.bool false,.int .u64 0,.int .u64 0,.pointer none] 27)).drewN k):=((But.refl _ _).alloc _).drewN k
have c0:((w.alloc (.cells #[.bool false,.int .u64 0,.int .u64 0,.pointer none] 27)).drewN k).cell? ⟨w.heap.size,0,none⟩=some (.bool false):=by simp
have c1:((w.alloc (.cells #[.bool false,.int .u64 0,.int .u64 0,.pointer none] 27)).drewN k).cell? ⟨w.heap.size,1,none⟩=some (.int .u64 0):=by simp
have c2:((w.alloc (.cells #[.bool false,.int .u64 0,.int .u64 0,.pointer none] 27)).drewN k).cell? ⟨w.heap.size,2,none⟩=some (.int .u64 0):=by simp
have c3:((w.alloc (.cells #[.bool false,.int .u64 0,.int .u64 0,.pointer none] 27)).drewN k).cell? ⟨w.heap.size,3,none⟩=some (.pointer none):=by simp
have hf:∀ j,((w.alloc (.cells #[.bool false,.int .u64 0,.int .u64 0,.pointer none] 27)).drewN k).frozen? ⟨w.heap.size,j,none⟩=false:=by intro j;simp
have hsz:w.heap.size<((w.alloc (.cells #[.bool false,.int .u64 0,.int .u64 0,.pointer none] 27)).drewN k).heap.size:=by simp
generalize (w.alloc (.cells #[.bool false,.int .u64 0,.int .u64 0,.pointer none] 27)).drewN k=W at *
obtain⟨gb,hgb⟩:∃ gb,gb=w.heap.size:=⟨_,rfl⟩
rw[← hgb] at c0 c1 c2 c3 hf hsz
rw[← hgb]
have HGB:=af hgb
clear hgb
go_region_with (go_at_call 134;refine (zax (decide (x<0) != decide (y<0)) p q hp64 hq64 hq0 r hr _).mono ?_;rintro e w1 ⟨rfl,hb1⟩;have B1:But [] W w1:=(by first | exact hb1 | exact (But.refl _ _).drew.trans' hb1);have k0:=B1.ag c0 (by simp);have k1:=B1.ag c1 (by simp);have k2:=B1.ag c2 (by simp);have k3:=B1.ag c3 (by simp);have f0:=(B1.frozen (p:=⟨gb,0,none⟩) hsz (by simp)).trans (hf 0);have f1:=(B1.frozen (p:=⟨gb,1,none⟩) hsz (by simp)).trans (hf 1);have f2:=(B1.frozen (p:=⟨gb,2,none⟩) hsz (by simp)).trans (hf 2);have f3:=(B1.frozen (p:=⟨gb,3,none⟩) hsz (by simp)).trans (hf 3))
all_goals go_wp2
all_goals
 have hge:w.heap.size≤gb:=Nat.le_of_eq (ae HGB).symm
 exact bodyPost_ret (v:=.tuple #[.agg #[.bool r,.int .u64 (p:Int),.int .u64 ((q:Int)-1),.pointer none],.nilIface]) (by simp[results,results60,go_sem,k0,k1,k2,k3]) rfl ⟨rfl,(((((hb0.trans' B1).setCell (.inr hge) _).setCell (.inr hge) _).setCell (.inr hge) _).setCell (.inr hge) _)⟩)
theorem zzl (X m:Nat) (h:(wd 18446744073709551616 X).length=m+2):X=vl 18446744073709551616 ((wd 18446744073709551616 X).take m) + 18446744073709551616^m*((wd 18446744073709551616 X)[m]?.getD 0 + 18446744073709551616*(wd 18446744073709551616 X)[m+1]?.getD 0):=by(
have e:=zas 18446744073709551616 (wd 18446744073709551616 X) m (by omega)
rw[drop_one _ (m+1) (by omega),zww,qh (by omega)] at e
exact e)
theorem qle (X m:Nat) (h:(wd 18446744073709551616 X).length=m+1):X=vl 18446744073709551616 ((wd 18446744073709551616 X).take m) + 18446744073709551616^m*((wd 18446744073709551616 X)[m]?.getD 0 + 18446744073709551616*0):=by(
have e:=zas 18446744073709551616 (wd 18446744073709551616 X) m (by omega)
rw[List.drop_eq_nil_of_le (by omega),vl,qh (by omega)] at e
exact e)
theorem qkm (x1 x0 n:Nat) (hn:n≤63) (hx0:x0 < 18446744073709551616) (h:x1*2^n < 18446744073709551616):x1*2^n+x0/2^(64-n) < 18446744073709551616:=by(
have hp:18446744073709551616=2^(64-n)*2^n:=by rw[← Nat.pow_add,show (64-n)+n=64 from by omega]
have h5:(x1+1)*2^n≤18446744073709551616:=by
 rw[hp] at h ⊢
 exact Nat.mul_le_mul_right _ (Nat.lt_of_mul_lt_mul_right h)
rw[Nat.add_mul,Nat.one_mul] at h5
have:=(ztm x1 x0 n hn hx0).2
generalize x0/2^(64-n)=z at *
generalize x1*2^n=y at *
generalize 2^n=P at *
omega)
theorem kw.fin' {ps qs ps' qs':List Nat} {c1 c2 c3 c4 n up dn lf rt bo ow:Nat} (h:kw ps qs ps' qs' c1 c2 c3 c4 n up dn lf rt bo ow) (hn:ps.length=n) (hl:ps.length=qs.length) (P' Q' X Y hp hq:Nat)
  (eP:P'=vl 18446744073709551616 ps + 18446744073709551616^n*hp) (eQ:Q'=vl 18446744073709551616 qs + 18446744073709551616^n*hq) (eX:X+c2*Q'=c1*P') (eY:Y+c3*P'=c4*Q') (hX:X < 18446744073709551616^n) (hY:Y < 18446744073709551616^n):vl 18446744073709551616 ps'=X∧vl 18446744073709551616 qs'=Y:=by
 subst hn
 exact h.fin hl P' Q' X Y hp hq eP eQ eX eY hX hY
theorem ztk (vx vy:Value) (X Y:Nat) (w:World) (hx:Sl .u64 w vx (wd 18446744073709551616 X)) (hy:Sl .u64 w vy (wd 18446744073709551616 Y)) (h2:2≤(wd 18446744073709551616 Y).length) (hn:(wd 18446744073709551616 X).length<(wd 18446744073709551616 Y).length+2) (hle:Y≤X) (hl:(wd 18446744073709551616 X).length<268435456) :
  Calls prog 239 #[vx,vy] w fun e w'=>∃ (xx xy yx yy:Nat) (back:Bool),e=.returned (.agg #[.int .u64 (xx:Int),.int .u64 (xy:Int),.int .u64 (yx:Int),.int .u64 (yy:Int),.bool back])∧xx < 18446744073709551616∧xy < 18446744073709551616∧yx < 18446744073709551616∧yy < 18446744073709551616∧zaq X Y xx xy yx yy back∧But [] w w':=by(
have hlen:=au hle
rcases hx.open with ⟨e,-⟩|⟨-,b1,o1,c1,rfl,hc1,-,hcx⟩
·rw[e,List.length_nil] at hlen;omega
rcases hy.open with ⟨e,-⟩|⟨-,b2,o2,c2,rfl,hc2,-,hcy⟩
·rw[e] at h2;simp at h2
obtain⟨m,hm⟩:∃ m,(wd 18446744073709551616 X).length=m+2:=⟨(wd 18446744073709551616 X).length-2,by omega⟩
have hXp:0<X:=by
 rcases Nat.eq_zero_or_pos X with h | h
 ·subst h;rw[zh] at hm;simp at hm
 ·exact h
obtain⟨t1,t2,-,-⟩:=zft X hXp
have ht:zu X=(wd 18446744073709551616 X)[m+1]?.getD 0:=by unfold zu;rw[hm];rfl
obtain⟨z1,z2,-,-⟩:=zaz (zu X) t1 t2
have eX:=zzl X m hm
have lX:=zac (wd 18446744073709551616 X) m (by omega) (zn (by omega) X)
have mX:=zn (B:=18446744073709551616) (by omega) X
have mY:=zn (B:=18446744073709551616) (by omega) Y
have k1:=hcx (m+1) (by omega)
have k0:=hcx m (by omega)
have bx0:=cf mX (by omega:0 < 18446744073709551616) m
rw[ht] at t1 t2 z1 z2
obtain⟨ε,e1,e2⟩:=zhc ((wd 18446744073709551616 X)[m+1]?.getD 0) ((wd 18446744073709551616 X)[m]?.getD 0) m (lz ((wd 18446744073709551616 X)[m+1]?.getD 0)) _ z1 lX
rw[← eX] at e1
have haB:=qkm _ _ _ z1 bx0 z2
rcases Nat.lt_or_ge (wd 18446744073709551616 Y).length (m+2) with hsh | hsh
·(
have hny:(wd 18446744073709551616 Y).length=m+1:=by omega
have eY:=qle Y m hny
have lY:=zac (wd 18446744073709551616 Y) m (by omega) mY
obtain⟨δ,f1,f2⟩:=zhc 0 ((wd 18446744073709551616 Y)[m]?.getD 0) m (lz ((wd 18446744073709551616 X)[m+1]?.getD 0)) _ z1 lY
rw[← eY] at f1
rw[Nat.zero_mul] at f1
have hda:=qag _ _ _ _ _ X Y e1 f1 e2 hle
exact zqu b1 o1 c1 b2 o2 c2 _ _ w ((wd 18446744073709551616 X)[m+1]?.getD 0) ((wd 18446744073709551616 X)[m]?.getD 0) 0 ((wd 18446744073709551616 Y)[m]?.getD 0) _ (0+(wd 18446744073709551616 Y)[m]?.getD 0/2^(64-lz ((wd 18446744073709551616 X)[m+1]?.getD 0))) (lz ((wd 18446744073709551616 X)[m+1]?.getD 0)) m X Y hm hny (by omega) k1 k0 (fun h=>by omega) (hcy m (by omega)) t1 t2 bx0 (by omega) (cf mY (by omega) m) z1 (by show _=_;rfl) (by show _=_;rfl) (by show _=_;rw[if_neg (by omega)]) z2 (fun h=>by omega) haB (Nat.lt_of_le_of_lt hda haB) hda (fun a b xx xy yx yy back h=>zaq.of h X Y _ ε δ e1 f1 e2 f2) hc1 hc2)
·(
have hny:(wd 18446744073709551616 Y).length=m+2:=by omega
have eY:=zzl Y m hny
have lY:=zac (wd 18446744073709551616 Y) m (by omega) mY
obtain⟨δ,f1,f2⟩:=zhc ((wd 18446744073709551616 Y)[m+1]?.getD 0) ((wd 18446744073709551616 Y)[m]?.getD 0) m (lz ((wd 18446744073709551616 X)[m+1]?.getD 0)) _ z1 lY
rw[← eY] at f1
have hda:=qag _ _ _ _ _ X Y e1 f1 e2 hle
exact zqt b1 o1 c1 b2 o2 c2 _ _ w ((wd 18446744073709551616 X)[m+1]?.getD 0) ((wd 18446744073709551616 X)[m]?.getD 0) ((wd 18446744073709551616 Y)[m+1]?.getD 0) ((wd 18446744073709551616 Y)[m]?.getD 0) _ _ (lz ((wd 18446744073709551616 X)[m+1]?.getD 0)) m X Y hm hny (by omega) k1 k0 (fun _=>hcy (m+1) (by omega)) (hcy m (by omega)) t1 t2 bx0 (cf mY (by omega) _) (cf mY (by omega) m) z1 (by show _=_;rfl) (by show _=_;rfl) (by show _=_;rw[if_pos hny]) z2 (fun _=>Nat.lt_of_le_of_lt (Nat.le_trans (Nat.le_add_right _ _) hda) haB) haB (Nat.lt_of_le_of_lt hda haB) hda (fun a b xx xy yx yy back h=>zaq.of h X Y _ ε δ e1 f1 e2 f2) hc1 hc2))
def Less (lo:Nat) (w:World) (X Y:Nat) (e:Ending) (w':World):Prop:=∃ v1 v2 X' Y',e=.returned (.tuple #[v1,v2])∧zph lo w' v1 v2 X' Y'∧Y'≤X'∧Y' < Y∧X'≤X∧Nat.gcd X' Y'=Nat.gcd X Y∧∃ l:List Nat,(∀ x ∈ l,lo≤x)∧But l w w'
theorem zsk (X Y:Nat):Nat.gcd Y (X%Y)=Nat.gcd X Y:=by rw[Nat.gcd_comm X Y,Nat.gcd_rec Y X,Nat.gcd_comm]
theorem qbe (lo:Nat) (vx vy:Value) (X Y xx xy yx yy:Nat) (back:Bool) (w:World) (hp:zph lo w vx vy X Y) (h2:2≤(wd 18446744073709551616 Y).length) (hle:Y≤X) (hl:(wd 18446744073709551616 X).length<1073741824) (hxx:xx < 18446744073709551616) (hxy:xy < 18446744073709551616) (hyx:yx < 18446744073709551616) (hyy:yy < 18446744073709551616) (hs:zaq X Y xx xy yx yy back) (hne:xy≠0) :
  Calls prog 240 #[.agg #[.int .u64 (xx:Int),.int .u64 (xy:Int),.int .u64 (yx:Int),.int .u64 (yy:Int),.bool back],vx,vy] w fun e w'=>Less lo w X Y e w':=by(
have hlen:=au hle
rcases hs with h0|⟨X',Y',hrel,hlt,hXY,hg⟩
·exact absurd h0 hne
have mX:=zn (B:=18446744073709551616) (by omega) X
have mY:=zn (B:=18446744073709551616) (by omega) Y
rcases hp.s1.open with ⟨e,-⟩|⟨-,g1,o1,c1,rfl,hc1,-,-⟩
·rw[e,List.length_nil] at hlen;omega
rcases hp.s2.open with ⟨e,-⟩|⟨-,g2,o2,c2,rfl,hc2,-,-⟩
·rw[e] at h2;simp at h2
have hap:g1≠g2:=hp.ap _ _ _ _ _ _ _ _ rfl rfl
obtain⟨l1,f1⟩:=hp.o1 _ _ _ _ rfl
obtain⟨l2,f2⟩:=hp.o2 _ _ _ _ rfl
have s1:=hp.s1.seg f1
have s2:=hp.s2.seg f2
have sP:=s1.sub 0 (wd 18446744073709551616 Y).length (by omega)
rw[List.drop_zero,Nat.add_zero] at sP
have lP:((wd 18446744073709551616 X).take (wd 18446744073709551616 Y).length).length=(wd 18446744073709551616 Y).length:=by rw[List.length_take];omega
have eP:=fw (wd 18446744073709551616 X) (wd 18446744073709551616 Y).length hlen
rw[qh (by omega)] at eP
have eQ:Y=vl 18446744073709551616 (wd 18446744073709551616 Y) + 18446744073709551616^(wd 18446744073709551616 Y).length*0:=by rw[qh (by omega)];omega
have hYl:=zem Y
have mP:∀ x ∈ (wd 18446744073709551616 X).take (wd 18446744073709551616 Y).length,x < 18446744073709551616:=fun x hx=>mX x (List.mem_of_mem_take hx)
cases back
·(
simp only[Bool.false_eq_true,if_false] at hrel
refine (qbd g1 o1 c1 g2 o2 c2 _ _ ((wd 18446744073709551616 X).take (wd 18446744073709551616 Y).length) (wd 18446744073709551616 Y) w xx xy yx yy hxx hxy hyx hyy hap sP s2 lP rfl (by omega) hlen hc1 hc2 hl mP mY X' Y' (fun ps' qs' u d l r b o h=>?_)).mono ?_
·exact h.fin' lP lP X Y X' Y' _ 0 eP eQ hrel.1 hrel.2 (by omega) (by omega)
·rintro e w' ⟨v1,v2,rfl,h1,h2',hb,ho1,ho2⟩
 exact⟨v1,v2,X',Y',rfl,⟨h1,h2',ho1.own l1,ho2.own l2,fun b off n c b' off' n' c' e1 e2=>by rw[(ho1 _ _ _ _ e1).1,(ho2 _ _ _ _ e2).1];exact hap⟩,by omega,by omega,by omega,hg,[g1,g2],fun x hx=>by simp at hx;rcases hx with rfl|rfl <;> assumption,hb⟩)
·(
simp only[if_true] at hrel
refine (zwz g1 o1 c1 g2 o2 c2 _ _ (wd 18446744073709551616 Y) ((wd 18446744073709551616 X).take (wd 18446744073709551616 Y).length) w xx xy yx yy hxx hxy hyx hyy hap sP s2 rfl lP (by omega) hlen hc1 hc2 hl mY mP X' Y' (fun ps' qs' u d l r b o h=>?_)).mono ?_
·exact h.fin' rfl lP.symm Y X X' Y' 0 _ eQ eP hrel.1 hrel.2 (by omega) (by omega)
·rintro e w' ⟨v1,v2,rfl,h1,h2',hb,ho1,ho2⟩
 exact⟨v1,v2,X',Y',rfl,⟨h1,h2',ho1.own l2,ho2.own l1,fun b off n c b' off' n' c' e1 e2=>by rw[(ho1 _ _ _ _ e1).1,(ho2 _ _ _ _ e2).1];exact hap.symm⟩,by omega,by omega,by omega,hg,[g1,g2],fun x hx=>by simp at hx;rcases hx with rfl|rfl <;> assumption,hb⟩))
theorem zum {lo:Nat} {W w':World} {vx vy v2:Value} {X Y:Nat} (hp:zph lo W vx vy X Y) (hY:0<Y) (hle:Y≤X) (hlo:lo≤W.heap.size) (h2:Sl .u64 w' v2 (wd 18446744073709551616 (X%Y))) (hb:But [] W w') (he:je W vx w' v2):Less lo W X Y (.returned (.tuple #[vy,v2])) w' :=
 ⟨vy,v2,Y,X%Y,rfl,⟨hp.s2.ah hb,h2,hp.o2.but hp.s2 hb,he.own hp.o1 hlo hp.s1 hb,fun b off n c b' off' n' c' e1 e2=>by
  have hpos:0<(wd 18446744073709551616 Y).length:=by rw[Nat.pos_iff_ne_zero];intro e;rw[ze (by omega)] at e;omega
  have h4:=hp.s2.lt hpos b off n c e1
  rcases he _ _ _ _ e2 with ⟨h3,-⟩|⟨o0,n0,c0,e0,-,-⟩
  ·omega
  ·exact fun e=>hp.ap _ _ _ _ _ _ _ _ e0 e1 e.symm⟩,Nat.le_of_lt (Nat.mod_lt _ hY),Nat.mod_lt _ hY,hle,zsk X Y,[],by simp,hb⟩
theorem Less.pre {lo:Nat} {w W:World} {X Y:Nat} {e:Ending} {w':World} (h:Less lo W X Y e w') (hb:But [] w W):Less lo w X Y e w':=by
 obtain⟨v1,v2,X',Y',h1,h2,h3,h4,h5,h6,l,h7,h8⟩:=h
 exact⟨v1,v2,X',Y',h1,h2,h3,h4,h5,h6,l,h7,(But.of_nil hb).trans h8 (fun x hx=>.inl hx)⟩
theorem zil (lo:Nat) (vx vy:Value) (X Y:Nat) (w:World) (hp:zph lo w vx vy X Y) (h2:2≤(wd 18446744073709551616 Y).length) (hle:Y≤X) (hl:(wd 18446744073709551616 X).length≤1000000) (hlo:lo≤w.heap.size) :
  Calls prog 207 #[vx,vy] w fun e w'=>Less lo w X Y e w':=by(
have hlen:=au hle
have hY:0<Y:=by
 rcases Nat.eq_zero_or_pos Y with h | h
 ·subst h;rw[zh] at h2;simp at h2
 ·exact h
have HQ:=af (fun (W:World) (h:zph lo W vx vy X Y)=>zdf vx vy X Y W h.s1 h.s2 hY (by omega) (by omega) (Short.of X Y hl))
have HT:=af (fun (W:World) (h:zph lo W vx vy X Y) xx xy yx yy back=>qbe lo vx vy X Y xx xy yx yy back W h h2 hle (by omega))
have HS:=af (fun (h:(wd 18446744073709551616 X).length<(wd 18446744073709551616 Y).length+2)=>ztk vx vy X Y w hp.s1 hp.s2 h2 h hle (by omega))
have HP:=af hp
obtain⟨a1,c1,rfl,-,-⟩:=hp.s1
obtain⟨a2,c2,rfl,-,-⟩:=hp.s2
clear hp
have HLO:=af hlo
clear hlo
generalize (wd 18446744073709551616 X).length=nx at *
generalize (wd 18446744073709551616 Y).length=ny at *
by_cases hn:nx<ny+2
·(
go_enter func207,ntmps207
go_wp2_with fail
refine (ae HS hn).mono ?_
rintro e w1 ⟨xx,xy,yx,yy,back,rfl,hxx,hxy,hyx,hyy,hok,hb1⟩
have HOK:=af hok
have HB1:=af hb1
clear hok hb1 HS
have BW:Hid (But [] w (w1.alloc (.cells #[.int .u64 (xx:Int),.int .u64 (xy:Int),.int .u64 (yx:Int),.int .u64 (yy:Int),.bool back] 276))):=(ae HB1).alloc _
by_cases h0:xy=0
·(
subst h0
go_wp2_with fail
refine (ae HQ _ ((ae HP).but (ae BW))).mono ?_
rintro e w2 ⟨v1,v2,rfl,-,hv2,hb2,ho2⟩
have R:=af ((zum ((ae HP).but (ae BW)) hY hle (Nat.le_trans (ae HLO) (ae BW).size) hv2 hb2 ho2).pre (ae BW))
clear hv2 hb2 ho2
go_wp2
go_ret2
exact ae R)
·(
have hz:((xy:Int) != 0)=true:=by simp;exact h0
go_wp2_with fail
refine (ae HT _ ((ae HP).but (ae BW)) xx xy yx yy back hxx hxy hyx hyy (ae HOK) h0).mono ?_
intro e w2 hless
obtain⟨v1,v2,X',Y',rfl,hrest⟩:=hless
have R:=af ((show Less lo _ X Y (.returned (.tuple #[v1,v2])) w2 from ⟨v1,v2,X',Y',rfl,hrest⟩).pre (ae BW))
clear hrest
go_wp2
go_ret2
exact ae R))
·(
go_enter func207,ntmps207
go_wp2_with fail
refine (ae HQ _ (ae HP)).mono ?_
rintro e w2 ⟨v1,v2,rfl,-,hv2,hb2,ho2⟩
have R:=af (zum (ae HP) hY hle (ae HLO) hv2 hb2 ho2)
clear hv2 hb2 ho2
go_wp2
go_ret2
exact ae R))
def zkb (w:World) (X Y:Nat) (Y':Nat) (vx vy:Value) (wr:World):Prop:=∃ X',Sl .u64 wr vx (wd 18446744073709551616 X')∧Sl .u64 wr vy (wd 18446744073709551616 Y')∧Y'≤X'∧X'≤X∧Nat.gcd X' Y'=Nat.gcd X Y∧But [] w wr∧(2≤(wd 18446744073709551616 Y').length→zph w.heap.size wr vx vy X' Y')
theorem zkr (vx vy:Value) (X Y:Nat) (w:World) (hx:Sl .u64 w vx (wd 18446744073709551616 X)) (hy:Sl .u64 w vy (wd 18446744073709551616 Y)) (hle:Y<X) (h1:1<Y) (hl:(wd 18446744073709551616 X).length≤1000000) (u v:Value) (r:Int) (hcmp:Hid (Calls prog 191 #[u,v] w fun e w'=>e=.returned (.int .i64 r)∧∃ q,w'=w.drewN q)) (huv:(u=vx∧v=vy∧r=1)∨(u=vy∧v=vx∧r=-1)) :
  Calls prog 168 #[u,v] w fun e w'=>∃ v',e=.returned v'∧Sl .u64 w' v' (wd 18446744073709551616 (Nat.gcd X Y))∧But [] w w':=by(
have hlen:=au (Nat.le_of_lt hle)
have hYl:0<(wd 18446744073709551616 Y).length:=by rw[Nat.pos_iff_ne_zero];intro e;rw[ze (by omega)] at e;omega
have HO:=af (fun W (h:Sl .u64 W vy (wd 18446744073709551616 Y))=>lv vy Y W h (by omega) false (by show false=_;simp;omega))
rcases hx.open with ⟨e,-⟩|⟨-,b1,o1,c1,rfl,hc1,-,-⟩
·rw[e,List.length_nil] at hlen;omega
rcases hy.open with ⟨e,-⟩|⟨-,b2,o2,c2,rfl,hc2,-,-⟩
·rw[e] at hYl;simp at hYl
have HC1:=af (fun W (h:Sl .u64 W (.slice (some ⟨b1,o1,none⟩) (wd 18446744073709551616 X).length c1) (wd 18446744073709551616 X))=>zqj b1 o1 c1 (wd 18446744073709551616 X) W h (by omega) (by omega))
have HC2:=af (fun W (h:Sl .u64 W (.slice (some ⟨b2,o2,none⟩) (wd 18446744073709551616 Y).length c2) (wd 18446744073709551616 Y))=>zqj b2 o2 c2 (wd 18446744073709551616 Y) W h (by omega) (by omega))
have HX:=af hx
have HY:=af hy
clear hx hy
generalize hnx:(wd 18446744073709551616 X).length=nx at *
generalize hny:(wd 18446744073709551616 Y).length=ny at *
have NX:=af hnx
have NY:=af hny
clear hnx hny
have n0:((ny:Int)==0)=false:=beq_eq_false_iff_ne.2 (by omega)
by_cases h2:2≤ny
·(
rcases huv with ⟨rfl,rfl,rfl⟩|⟨rfl,rfl,rfl⟩
all_goals(
go_enter func168,ntmps168
go_wp2_with fail
refine (ae hcmp).mono ?_
rintro e w1 ⟨rfl,q,rfl⟩
go_wp2_with fail
refine (ae HO _ (by exact ae HY)).mono ?_
rintro e w1 ⟨rfl,hw⟩
obtain rfl:=hw.symm
clear hw
go_wp2_with fail
refine (ae HC1 _ (by exact ae HX)).mono ?_
rintro e w2 ⟨v1,rfl,hv1,hb1,ho1,g1,d1,rfl⟩
have B1:Hid (But [] w w2):=((But.refl [] _).drewN q).trans' hb1
have P1:=af (And.intro hv1 ho1)
clear hv1 hb1 ho1
go_wp2_with fail
refine (ae HC2 _ ((ae HY).ah (ae B1))).mono ?_
rintro e w3 ⟨v2,rfl,hv2,hb2,ho2,g2,d2,rfl⟩
have hap:g1<w2.heap.size:=(ae P1).1.lt (by rw[ae NX];omega) g1 0 _ _ rfl
have hap2:w2.heap.size≤g2:=(ho2 _ _ _ _ rfl).1
have A0:Hid (zkb w X Y Y (.slice (some ⟨g1,0,none⟩) nx d1) (.slice (some ⟨g2,0,none⟩) ny d2) w3) :=
 ⟨X,(ae P1).1.ah hb2,hv2,Nat.le_of_lt hle,Nat.le_refl _,rfl,(ae B1).trans' hb2,fun _=>⟨(ae P1).1.ah hb2,hv2,(ae P1).2.but (ae P1).1 hb2,ho2.mono (ae B1).size,fun b off n c b' off' n' c' e1 e2=>by
  simp only[Value.slice.injEq,Option.some.injEq,Addr.mk.injEq] at e1 e2
  obtain⟨⟨rfl,-⟩,-⟩:=e1
  obtain⟨⟨rfl,-⟩,-⟩:=e2
  omega⟩⟩
clear hv2 hb2 ho2 P1 B1 HC1 HC2 hap hap2
go_wp2_with fail
go_loopg [0,1] Y (fun k p1 p2 wr=>Hid (zkb w X Y k p1 p2 wr))
case atStart=>exact A0
case round =>(
clear A0
obtain⟨X',hs1,hs2,hYX,hXX,hg,hB,hP⟩:=ae hrel
have hl1:=au hXX
have hl2:=au hYX
have HI:=af (And.intro hs1 (And.intro hs2 (And.intro hYX (And.intro hXX (And.intro hg (And.intro hB hP))))))
rw[ae NX] at hl1
by_cases hk2:2≤(wd 18446744073709551616 gk).length
·(
have HL:=af (zil w.heap.size _ _ X' gk wr (hP hk2) hk2 hYX (by omega) hB.size)
obtain⟨a1,d1,rfl,-,-⟩:=hs1
obtain⟨a2,d2,rfl,-,-⟩:=hs2
clear hrel hg hB hP
generalize (wd 18446744073709551616 X').length=m1 at *
generalize (wd 18446744073709551616 gk).length=m2 at *
go_wp2_with fail
refine (ae HL).mono ?_
rintro e w5 ⟨v1,v2,X2,Y2,rfl,hp2,hle2,hlt2,hX2,hg2,l,hlo,hbl⟩
have R:Hid (zkb w X Y Y2 v1 v2 w5):=⟨X2,hp2.s1,hp2.s2,hle2,by omega,by rw[hg2];exact (ae HI).2.2.2.2.1,(ae HI).2.2.2.2.2.1.trans hbl (fun x hx=>.inr (hlo x hx)),fun _=>hp2⟩
clear hp2 hg2 hlo hbl
go_wp2
go_roundg Y2
case measure=>exact hlt2
case rel=>exact R)
·(
rcases Nat.eq_zero_or_pos gk with hz | hz
·(
subst hz
rw[Nat.gcd_zero_right] at hg
rw[zh] at hs2
obtain⟨a1,d1,rfl,-,-⟩:=id hs1
obtain⟨a2,d2,rfl,-,-⟩:=hs2
have R:=af (And.intro hs1 hB)
have HG:=af hg
clear hrel hg hB hP hs1 hk2 HI hl2
generalize (wd 18446744073709551616 X').length=m1 at *
go_wp2
go_ret
exact⟨_,rfl,by rw[← ae HG];exact (ae R).1,(ae R).2⟩)
·(
have hkB:gk < 18446744073709551616:=by
 rcases Nat.lt_or_ge gk 18446744073709551616 with h | h
 ·exact h
 ·exact absurd (zdx gk h) hk2
rcases zfr hs2 hkB with ⟨rfl,-⟩|⟨-,b,off,c,rfl,hcell⟩
·omega
have HBY:=af (zhg _ X' gk wr hs1 (by omega) hz hkB)
have hmB:X' % gk < 18446744073709551616:=Nat.lt_trans (Nat.mod_lt _ hz) hkB
have GW:=af (fun W=>jr gk (X' % gk) W hkB hmB)
have hgB:Nat.gcd gk (X' % gk) < 18446744073709551616:=Nat.lt_of_le_of_lt (Nat.gcd_le_left _ hz) hkB
have HG:Hid (Nat.gcd gk (X' % gk)=Nat.gcd X Y):=by show _=_;rw[zsk];exact hg
have HOF:=af (fun W=>ji (Nat.gcd gk (X' % gk)) hgB W)
obtain⟨a1,d1,rfl,-,-⟩:=id hs1
have HB:=af hB
clear hrel hg hB hP hs1 hs2 HI hl2
generalize (wd 18446744073709551616 X').length=m1 at *
go_wp2_with fail
refine (ae HBY).mono ?_
rintro e w5 ⟨v5,rfl,-,hb5⟩
have hc5:=hb5.ag hcell (by simp)
have HB5:=af hb5
clear hb5 hcell
go_wp2_with fail
refine (ae GW _).mono ?_
rintro e w6 ⟨rfl,q6,rfl⟩
go_wp2_with fail
refine (ae HOF _).mono ?_
rintro e w7 ⟨v7,rfl,hv7,hb7,-⟩
rw[ae HG] at hv7
have R:=af (And.intro hv7 ((ae HB).trans' ((ae HB5).trans' (((But.refl [] _).drewN q6).trans' hb7))))
clear hv7 hb7
go_wp2
go_ret
exact⟨v7,rfl,(ae R).1,(ae R).2⟩)))))
·(
rcases huv with ⟨rfl,rfl,rfl⟩|⟨rfl,rfl,rfl⟩
all_goals(
go_enter func168,ntmps168
go_wp2_with fail
refine (ae hcmp).mono ?_
rintro e w1 ⟨rfl,q,rfl⟩
go_wp2_with fail
refine (ae HO _ (by exact ae HY)).mono ?_
rintro e w1 ⟨rfl,hw⟩
obtain rfl:=hw.symm
clear hw
have A0:Hid (zkb w X Y Y (.slice (some ⟨b1,o1,none⟩) nx c1) (.slice (some ⟨b2,o2,none⟩) ny c2) (w.drewN q)) :=
 ⟨X,ae HX,ae HY,Nat.le_of_lt hle,Nat.le_refl _,rfl,(But.refl [] _).drewN q,fun h=>by rw[ae NY] at h;omega⟩
go_wp2_with fail
go_loopg [0,1] Y (fun k p1 p2 wr=>Hid (zkb w X Y k p1 p2 wr))
case atStart=>exact A0
case round =>(
clear A0
obtain⟨X',hs1,hs2,hYX,hXX,hg,hB,hP⟩:=ae hrel
have hl1:=au hXX
have hl2:=au hYX
have HI:=af (And.intro hs1 (And.intro hs2 (And.intro hYX (And.intro hXX (And.intro hg (And.intro hB hP))))))
rw[ae NX] at hl1
by_cases hk2:2≤(wd 18446744073709551616 gk).length
·(
have HL:=af (zil w.heap.size _ _ X' gk wr (hP hk2) hk2 hYX (by omega) hB.size)
obtain⟨a1,d1,rfl,-,-⟩:=hs1
obtain⟨a2,d2,rfl,-,-⟩:=hs2
clear hrel hg hB hP
generalize (wd 18446744073709551616 X').length=m1 at *
generalize (wd 18446744073709551616 gk).length=m2 at *
go_wp2_with fail
refine (ae HL).mono ?_
rintro e w5 ⟨v1,v2,X2,Y2,rfl,hp2,hle2,hlt2,hX2,hg2,l,hlo,hbl⟩
have R:Hid (zkb w X Y Y2 v1 v2 w5):=⟨X2,hp2.s1,hp2.s2,hle2,by omega,by rw[hg2];exact (ae HI).2.2.2.2.1,(ae HI).2.2.2.2.2.1.trans hbl (fun x hx=>.inr (hlo x hx)),fun _=>hp2⟩
clear hp2 hg2 hlo hbl
go_wp2
go_roundg Y2
case measure=>exact hlt2
case rel=>exact R)
·(
rcases Nat.eq_zero_or_pos gk with hz | hz
·(
subst hz
rw[Nat.gcd_zero_right] at hg
rw[zh] at hs2
obtain⟨a1,d1,rfl,-,-⟩:=id hs1
obtain⟨a2,d2,rfl,-,-⟩:=hs2
have R:=af (And.intro hs1 hB)
have HG:=af hg
clear hrel hg hB hP hs1 hk2 HI hl2
generalize (wd 18446744073709551616 X').length=m1 at *
go_wp2
go_ret
exact⟨_,rfl,by rw[← ae HG];exact (ae R).1,(ae R).2⟩)
·(
have hkB:gk < 18446744073709551616:=by
 rcases Nat.lt_or_ge gk 18446744073709551616 with h | h
 ·exact h
 ·exact absurd (zdx gk h) hk2
rcases zfr hs2 hkB with ⟨rfl,-⟩|⟨-,b,off,c,rfl,hcell⟩
·omega
have HBY:=af (zhg _ X' gk wr hs1 (by omega) hz hkB)
have hmB:X' % gk < 18446744073709551616:=Nat.lt_trans (Nat.mod_lt _ hz) hkB
have GW:=af (fun W=>jr gk (X' % gk) W hkB hmB)
have hgB:Nat.gcd gk (X' % gk) < 18446744073709551616:=Nat.lt_of_le_of_lt (Nat.gcd_le_left _ hz) hkB
have HG:Hid (Nat.gcd gk (X' % gk)=Nat.gcd X Y):=by show _=_;rw[zsk];exact hg
have HOF:=af (fun W=>ji (Nat.gcd gk (X' % gk)) hgB W)
obtain⟨a1,d1,rfl,-,-⟩:=id hs1
have HB:=af hB
clear hrel hg hB hP hs1 hs2 HI hl2
generalize (wd 18446744073709551616 X').length=m1 at *
go_wp2_with fail
refine (ae HBY).mono ?_
rintro e w5 ⟨v5,rfl,-,hb5⟩
have hc5:=hb5.ag hcell (by simp)
have HB5:=af hb5
clear hb5 hcell
go_wp2_with fail
refine (ae GW _).mono ?_
rintro e w6 ⟨rfl,q6,rfl⟩
go_wp2_with fail
refine (ae HOF _).mono ?_
rintro e w7 ⟨v7,rfl,hv7,hb7,-⟩
rw[ae HG] at hv7
have R:=af (And.intro hv7 ((ae HB).trans' ((ae HB5).trans' (((But.refl [] _).drewN q6).trans' hb7))))
clear hv7 hb7
go_wp2
go_ret
exact⟨v7,rfl,(ae R).1,(ae R).2⟩))))))
theorem zcd (vx vy:Value) (X Y:Nat) (w:World) (hx:Sl .u64 w vx (wd 18446744073709551616 X)) (hy:Sl .u64 w vy (wd 18446744073709551616 Y)) (hlx:(wd 18446744073709551616 X).length≤1000000) (hly:(wd 18446744073709551616 Y).length≤1000000) :
  Calls prog 168 #[vx,vy] w fun e w'=>∃ v',e=.returned v'∧Sl .u64 w' v' (wd 18446744073709551616 (Nat.gcd X Y))∧But [] w w':=by(
have hcmp:=kz vx vy X Y w hx hy (by omega) (by omega)
have HX:=af hx
have HY:=af hy
rcases zcg X Y with ⟨hlt,hc⟩|⟨heq,hc⟩|⟨hgt,hc⟩
·(
rw[hc] at hcmp
rcases Nat.lt_or_ge 1 X with h1 | h1
·have:=zkr vy vx Y X w hy hx hlt h1 hly vx vy (-1) hcmp (.inr ⟨rfl,rfl,rfl⟩)
 rw[Nat.gcd_comm] at this
 exact this
·(
have HC:=af hcmp
have HO:=af (fun W (h:Sl .u64 W vx (wd 18446744073709551616 X))=>lv vx X W h (by omega) true)
rcases Nat.eq_zero_or_pos X with h0 | h0
·(
subst h0
rw[Nat.gcd_zero_left]
rw[zh] at hx
obtain⟨a1,c1,rfl,-,-⟩:=hx
obtain⟨a2,c2,rfl,-,-⟩:=hy
clear hcmp hc HO
generalize (wd 18446744073709551616 Y).length=ny at *
go_enter func168,ntmps168
go_wp2_with fail
refine (ae HC).mono ?_
rintro e w1 ⟨rfl,q,rfl⟩
go_wp2
go_ret
exact⟨_,rfl,ae HY,(But.refl _ _).drewN q⟩)
·(
have hX1:X=1:=by omega
subst hX1
rw[Nat.gcd_one_left]
have hl1:(wd 18446744073709551616 1).length=1:=by rw[zdw 1 (by omega) (by omega)];rfl
have HO1:=af (fun W h=>ae HO W h (by show true=_;rfl))
obtain⟨a1,c1,rfl,-,-⟩:=hx
obtain⟨a2,c2,rfl,-,-⟩:=hy
clear hcmp hc HO
rw[hl1] at *
generalize (wd 18446744073709551616 Y).length=ny at *
clear hl1
go_enter func168,ntmps168
go_wp2_with fail
refine (ae HC).mono ?_
rintro e w1 ⟨rfl,q,rfl⟩
go_wp2_with fail
refine (ae HO1 _ (by exact ae HX)).mono ?_
rintro e w1 ⟨rfl,hw⟩
obtain rfl:=hw.symm
clear hw
go_wp2
go_ret
exact⟨_,rfl,ae HX,(But.refl _ _).drewN q⟩)))
·(
rw[hc] at hcmp
have HC:=af hcmp
subst heq
rw[Nat.gcd_self]
obtain⟨a1,c1,rfl,-,-⟩:=hx
obtain⟨a2,c2,rfl,-,-⟩:=hy
clear hcmp hc
generalize (wd 18446744073709551616 X).length=nx at *
go_enter func168,ntmps168
go_wp2_with fail
refine (ae HC).mono ?_
rintro e w1 ⟨rfl,q,rfl⟩
go_wp2
go_ret
exact⟨_,rfl,ae HX,(But.refl _ _).drewN q⟩)
·(
rw[hc] at hcmp
rcases Nat.lt_or_ge 1 Y with h1 | h1
·exact zkr vx vy X Y w hx hy hgt h1 hlx vx vy 1 hcmp (.inl ⟨rfl,rfl,rfl⟩)
·(
have HC:=af hcmp
have HO:=af (fun W (h:Sl .u64 W vy (wd 18446744073709551616 Y))=>lv vy Y W h (by omega) true)
rcases Nat.eq_zero_or_pos Y with h0 | h0
·(
subst h0
rw[Nat.gcd_zero_right]
rw[zh] at hy
obtain⟨a1,c1,rfl,-,-⟩:=hx
obtain⟨a2,c2,rfl,-,-⟩:=hy
clear hcmp hc HO
generalize (wd 18446744073709551616 X).length=nx at *
go_enter func168,ntmps168
go_wp2_with fail
refine (ae HC).mono ?_
rintro e w1 ⟨rfl,q,rfl⟩
go_wp2
go_ret
exact⟨_,rfl,ae HX,(But.refl _ _).drewN q⟩)
·(
have hX1:Y=1:=by omega
subst hX1
rw[Nat.gcd_one_right]
have hl1:(wd 18446744073709551616 1).length=1:=by rw[zdw 1 (by omega) (by omega)];rfl
have HO1:=af (fun W h=>ae HO W h (by show true=_;rfl))
obtain⟨a1,c1,rfl,-,-⟩:=hx
obtain⟨a2,c2,rfl,-,-⟩:=hy
clear hcmp hc HO
rw[hl1] at *
generalize (wd 18446744073709551616 X).length=nx at *
clear hl1
go_enter func168,ntmps168
go_wp2_with fail
refine (ae HC).mono ?_
rintro e w1 ⟨rfl,q,rfl⟩
go_wp2_with fail
refine (ae HO1 _ (by exact ae HY)).mono ?_
rintro e w1 ⟨rfl,hw⟩
obtain rfl:=hw.symm
clear hw
go_wp2
go_ret
exact⟨_,rfl,ae HY,(But.refl _ _).drewN q⟩))))
theorem qaw (x:Int) (h1:-9223372036854775808≤x) (h2:x<9223372036854775808) (w:World) :
  Calls prog 79 #[.int .i64 x] w fun e w'=>e=.returned (.agg #[.bool (decide (x<0)),.int .u64 ((x.natAbs:Nat):Int),.int .u64 (((1:Nat):Int)-1),.pointer none])∧But [] w w':=by(
obtain⟨s,hs⟩:∃ s,s=decide (x<0):=⟨_,rfl⟩
obtain⟨n,hn⟩:∃ n,n=x.natAbs:=⟨_,rfl⟩
rw[← hs,← hn]
have HS:=af hs
have HN:=af hn
go_enter func79,ntmps79
go_wp2_with fail
refine (zmj x h1 h2 _).mono ?_
rintro e w1 ⟨rfl,hw⟩
obtain rfl:=hw.symm
go_wp2
exact bodyPost_ret (v:=.agg #[.bool (decide (x<0)),.int .u64 ((x.natAbs:Nat):Int),.int .u64 0,.pointer none]) (by simp[results,results79,go_sem]) rfl ⟨by rw[ae HS,ae HN];rfl,(But.refl _ _).alloc _⟩)
end Go.Proofs.YtagmkkiagjmimaaGreatDoor
