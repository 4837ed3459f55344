/- Quotients of the reference's where there -/
import Derived.Deep.RegionHeld
import Derived.Test.YtjlfllhedceigaaGreatDoorRHJr
import Derived.Test.YtjlfllhedceigaaGreatDoorRTWc
namespace Go.Proofs.YtjlfllhedceigaaGreatDoor
open Go.Proofs.Tryz
open Go.RowKit
set_option maxHeartbeats 8000000
set_option maxRecDepth 100000
set_option linter.unusedVariables false
theorem qfk (xb yb:Nat) (f g:Rat) (w:World) (hx:zx w xb f) (hy:zx w yb g) (lf:zbn f 2000000) (lg:zbn g 2000000) :
   Calls prog 62 #[.pointer (some ⟨xb,0,none⟩),.pointer (some ⟨yb,0,none⟩)] w fun e w'=>∃ c,e=.returned (.int .i64 c)∧(c<0↔f<g)∧(0<c↔g<f)∧(c=0↔f=g)∧But [] w w':=by(
 have hfd:0<f.den:=Nat.pos_of_ne_zero f.den_nz
 have hgd:0<g.den:=Nat.pos_of_ne_zero g.den_nz
 obtain⟨lf1,lf2⟩:=lf
 obtain⟨lg1,lg2⟩:=lg
 have d1:(wd 4294967296 ((f.den:Nat):Int).natAbs).length≤2000000:=by rw[Int.natAbs_natCast];exact lf2
 have d2:(wd 4294967296 ((g.den:Nat):Int).natAbs).length≤2000000:=by rw[Int.natAbs_natCast];exact lg2
 have p1:=zmw f.num (g.den:Int) _ _ lf1 d2
 have p2:=zmw g.num (f.den:Int) _ _ lg1 d1
 have l1:=Rat.lt_iff (a:=f) (b:=g)
 have l2:=Rat.lt_iff (a:=g) (b:=f)
 have e0:f=g↔¬ f<g∧¬ g<f:=⟨fun h=>by rw[h];exact⟨Rat.lt_irrefl,Rat.lt_irrefl⟩,fun ⟨h1,h2⟩=>Rat.le_antisymm (Rat.not_lt.1 h2) (Rat.not_lt.1 h1)⟩
 refine (zqe xb yb f.num g.num f.den g.den w hx hy hfd hgd (by omega) (by omega) (by omega) (by omega) _ _ rfl rfl (by omega) (by omega)).mono ?_
 rintro e w' ⟨rfl,hb⟩
 refine⟨_,rfl,?_,?_,?_,hb⟩
 ·rw[l1];unfold ax;split
  ·omega
  ·split <;> omega
 ·rw[l2];unfold ax;split
  ·omega
  ·split <;> omega
 ·rw[e0,l1,l2];unfold ax;split
  ·omega
  ·split <;> omega)
def rlV (kd:Int) (zb:Nat) (fr li ti pr:Int) (nm:ByteArray):Value:=.agg #[.int .i64 kd,.pointer (some ⟨zb,0,none⟩),.int .i64 fr,.int .i64 li,.int .i64 ti,.int .i64 pr,.string nm]
theorem znz (kd:Int) (zb:Nat) (fr li ti pr:Int) (nm:ByteArray) (w:World) (hk:kd<1∨4<kd) :
   Calls prog 73 #[rlV kd zb fr li ti pr nm] w fun e w'=>e=.returned (.int .i64 1)∧But [] w w':=by(
 unfold rlV
 rcases hk with h | h
 ·go_enter func73,ntmps73
  go_wp2
  go_ret
  exact⟨rfl,(But.refl _ _).alloc _⟩
 ·(
 have h1:¬ kd<1:=by omega
 go_enter func73,ntmps73
 go_wp2
 go_ret
 exact⟨rfl,(But.refl _ _).alloc _⟩))
theorem zny (kd:Int) (zb:Nat) (fr li ti pr:Int) (nm:ByteArray) (w:World) (k1:¬ kd<1) (k2:¬ 4<kd) (hname:¬ qd nm) (hbig:nm.size<9223372036854775808) :
   Calls prog 73 #[rlV kd zb fr li ti pr nm] w fun e w'=>e=.returned (.int .i64 5)∧But [] w w':=by(
 unfold rlV
 have NM:=af (fun W=>zsb nm W hname hbig)
 go_enter func73,ntmps73
 go_wp2_with fail
 refine (ae NM _).mono ?_
 rintro e w1 ⟨rfl,hb1⟩
 have B1:=af (((But.refl [] w).alloc (.cells #[.int .i64 kd,.pointer (some ⟨zb,0,none⟩),.int .i64 fr,.int .i64 li,.int .i64 ti,.int .i64 pr,.string nm] 135)).trans' hb1)
 clear hb1
 go_wp2
 go_ret
 exact⟨rfl,ae B1⟩)
theorem zlw (kd:Int) (zb:Nat) (fr li ti pr:Int) (nm:ByteArray) (w:World) (k1:¬ kd<1) (k2:¬ 4<kd) (hname:qd nm) (hr:¬ qg fr li ti pr) :
   Calls prog 73 #[rlV kd zb fr li ti pr nm] w fun e w'=>e=.returned (.int .i64 2)∧But [] w w':=by(
 unfold rlV
 have NM:=af (fun W=>oo nm W hname)
 have HR:=af hr
 clear hr
 go_enter func73,ntmps73
 go_wp2_with fail
 refine (ae NM _).mono ?_
 rintro e w1 ⟨rfl,hb1⟩
 have B1:=af (((But.refl [] w).alloc (.cells #[.int .i64 kd,.pointer (some ⟨zb,0,none⟩),.int .i64 fr,.int .i64 li,.int .i64 ti,.int .i64 pr,.string nm] 135)).trans' hb1)
 have c2:w1.cell? ⟨w.heap.size,2,none⟩=some (.int .i64 fr):=hb1.ag (by simp) (by simp)
 have c3:w1.cell? ⟨w.heap.size,3,none⟩=some (.int .i64 li):=hb1.ag (by simp) (by simp)
 have c4:w1.cell? ⟨w.heap.size,4,none⟩=some (.int .i64 ti):=hb1.ag (by simp) (by simp)
 have c5:w1.cell? ⟨w.heap.size,5,none⟩=some (.int .i64 pr):=hb1.ag (by simp) (by simp)
 generalize w.heap.size=g1 at c2 c3 c4 c5 ⊢
 obtain⟨V,hV⟩:∃ V,V=w1.alloc (.cells #[.int .i64 fr,.int .i64 li,.int .i64 pr] 3):=⟨_,rfl⟩
 have hbv:But [] w1 V:=by rw[hV];exact (But.refl _ _).alloc _
 have B2:=af ((ae B1).trans' hbv)
 have v0:V.cell? ⟨w1.heap.size,0,none⟩=some (.int .i64 fr):=by rw[hV];simp
 have v1:V.cell? ⟨w1.heap.size,1,none⟩=some (.int .i64 li):=by rw[hV];simp
 have v2:V.cell? ⟨w1.heap.size,2,none⟩=some (.int .i64 pr):=by rw[hV];simp
 have x4:V.cell? ⟨g1,4,none⟩=some (.int .i64 ti):=hbv.ag c4 (by simp)
 have HV:=af hV
 clear hb1 hbv B1 hV c4
 go_wp2
 rw[← ae HV]
 clear HV c2 c3 c5
 generalize w1.heap.size=g2 at v0 v1 v2 ⊢
 have HC:Hid (∀ k:Nat,k<3→V.cell? ⟨g2,k,none⟩=some (.int .i64 ([fr,li,pr].getD k 0))):=fun k hk=>by
  match k,hk with
  | 0,_=>exact v0
  | 1,_=>exact v1
  | 2,_=>exact v2
 clear v0 v1 v2
 go_loopw [27] (fun i wr=>∃ k:Nat,k≤3∧i=.int .i64 (k:Int)∧Hid (∀ j,j<k→0≤[fr,li,pr].getD j 0∧[fr,li,pr].getD j 0≤1000000000000)∧wr=V) (fun i _=>3-(intOf i).toNat)
 case atStart=>exact⟨0,Nat.zero_le _,rfl,fun j hj=>absurd hj (by omega),rfl⟩
 case round =>(
 obtain⟨k,hk,rfl,HO,rfl⟩:=hrel
 by_cases hlt:k<3
 ·(
 have c0:=ae HC k hlt
 have HN:0≤[fr,li,pr].getD k 0∧[fr,li,pr].getD k 0≤1000000000000→Hid (∀ j,j<k+1→0≤[fr,li,pr].getD j 0∧[fr,li,pr].getD j 0≤1000000000000):=fun hk1 j hj=>by
  rcases Nat.lt_or_ge j k with h | h
  ·exact ae HO j h
  ·obtain rfl:j=k:=by omega
   exact hk1
 have HNN:=af HN
 clear HN
 generalize [fr,li,pr].getD k 0=z at *
 by_cases z0:z<0
 ·clear HNN
  go_wp2
  go_ret
  exact⟨rfl,ae B2⟩
 ·(
 by_cases z1:1000000000000<z
 ·clear HNN
  go_wp2
  go_ret
  exact⟨rfl,ae B2⟩
 ·have HN:=ae HNN ⟨by omega,by omega⟩
  clear HNN
  go_wp2
  all_goals exact⟨⟨k+1,by omega,by go_num,ae HN,by first | trivial|rfl⟩,by simp[intOf];omega⟩))
 ·(
 obtain rfl:k=3:=by omega
 have h0:=ae HO 0 (by omega)
 have h1:=ae HO 1 (by omega)
 have h2:=ae HO 2 (by omega)
 have ht:ti<0∨100<ti:=by
  have:=ae HR
  unfold qg at this
  simp at h0 h1 h2
  omega
 clear h0 h1 h2
 rcases ht with t0 | t0
 ·go_wp2
  go_ret
  exact⟨rfl,ae B2⟩
 ·have t1:¬ ti<0:=by omega
  go_wp2
  go_ret
  exact⟨rfl,ae B2⟩)))
end Go.Proofs.YtjlfllhedceigaaGreatDoor
