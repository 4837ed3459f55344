/- The greatest common divisor of two words -/
import Derived.Test.YtollloafckcogaaGreatDoorProg
import Derived.WalkKit
import Derived.Deep.QuietTactic
import Derived.BigQuiet
import Derived.Laws.OwnMore
import Derived.Lib.ItoaMem
import Derived.Laws.IdiomStrings
import Derived.Lib.AppendIntMem
import Derived.Test.YtollloafckcogaaGreatDoorKFN17a
import Derived.Test.YtollloafckcogaaGreatDoorKFN17b
import Derived.Test.YtollloafckcogaaGreatDoorKFN31
import Derived.Test.YtollloafckcogaaGreatDoorKFShelf
namespace Go.Proofs.YtollloafckcogaaGreatDoor
open Go.RowKit
set_option maxHeartbeats 400000
theorem gcdWords_any (x y:Nat) (w:World) (hx:x<18446744073709551616) (hy:y<18446744073709551616) :
  Calls Tryz.prog 73 #[.int .u64 x,.int .u64 y] w fun e w'=>e=.returned (.int .u64 (Nat.gcd x y:Nat))∧∃ n,w'=w.drewN n:=by
 go_enter Tryz.func73,Tryz.ntmps73
 go_wp2
 go_loopw [0,1] (fun a b w'=>∃ p q:Nat,a=.int .u64 p∧b=.int .u64 q∧p<18446744073709551616∧q<18446744073709551616∧Hid (Nat.gcd p q=Nat.gcd x y)∧∃ n,w'=w.drewN n) (fun _ b _=>(intOf b).toNat)
 case atStart=>exact ⟨x,y,rfl,rfl,hx,hy,(rfl:Nat.gcd x y=Nat.gcd x y),0,rfl⟩
 case round =>
  obtain ⟨p,q,rfl,rfl,hp,hq,hg,n,rfl⟩:=hrel
  by_cases h0:q=0
  ·subst h0
   go_wp2
   go_ret
   exact ⟨by rw [← hg.out];simp,n,rfl⟩
  ·have hb:((q:Int)==0)=false:=by simp;exact h0
   have hn:((q:Int) != 0)=true:=by simp;exact h0
   go_wp2
   go_quiet (fail)
   go_roundw
   case rel =>
    refine ⟨_,_,_,_,_,_,_,_,⟨q,p%q,rfl,?_,hq,?_,?_,n+nq,?_⟩,rfl⟩
    ·rw [Int.natCast_emod]
    ·exact Nat.lt_trans (Nat.mod_lt _ (Nat.pos_of_ne_zero h0)) hq
    ·show Nat.gcd q (p%q)=Nat.gcd x y
     rw [← hg.out,Nat.gcd_comm p q,Nat.gcd_rec q p,Nat.gcd_comm]
    ·exact World.drewN_drewN _ _ _
   case measure =>
    simp [intOf]
    have:=Nat.mod_lt p (Nat.pos_of_ne_zero h0)
    omega
end Go.Proofs.YtollloafckcogaaGreatDoor

namespace Go.Proofs.YtollloafckcogaaGreatDoor
open Go.RowKit
set_option maxHeartbeats 4000000
set_option maxRecDepth 100000
theorem two_top (X m:Nat) (h:(wd 18446744073709551616 X).length=m+2):X=vl 18446744073709551616 ((wd 18446744073709551616 X).take m) + 18446744073709551616^m*((wd 18446744073709551616 X)[m]?.getD 0 + 18446744073709551616*(wd 18446744073709551616 X)[m+1]?.getD 0):=by
 have e:=vl_split 18446744073709551616 (wd 18446744073709551616 X) m (by omega)
 rw [drop_one _ (m+1) (by omega),vl_one,vl_wd (by omega)] at e
 exact e
theorem one_top (X m:Nat) (h:(wd 18446744073709551616 X).length=m+1):X=vl 18446744073709551616 ((wd 18446744073709551616 X).take m) + 18446744073709551616^m*((wd 18446744073709551616 X)[m]?.getD 0 + 18446744073709551616*0):=by
 have e:=vl_split 18446744073709551616 (wd 18446744073709551616 X) m (by omega)
 rw [List.drop_eq_nil_of_le (by omega),vl,vl_wd (by omega)] at e
 exact e
theorem top_sum (x1 x0 n:Nat) (hn:n≤63) (hx0:x0 < 18446744073709551616) (h:x1*2^n < 18446744073709551616):x1*2^n+x0/2^(64-n) < 18446744073709551616:=by
 have hp:18446744073709551616=2^(64-n)*2^n:=by rw [← Nat.pow_add,show (64-n)+n=64 from by omega]
 have h5:(x1+1)*2^n≤18446744073709551616:=by
  rw [hp] at h ⊢
  exact Nat.mul_le_mul_right _ (Nat.lt_of_mul_lt_mul_right h)
 rw [Nat.add_mul,Nat.one_mul] at h5
 have:=(sh_or x1 x0 n hn hx0).2
 generalize x0/2^(64-n)=z at *
 generalize x1*2^n=y at *
 generalize 2^n=P at *
 omega
theorem TakeInv.fin' {ps qs ps' qs':List Nat} {c1 c2 c3 c4 n up dn lf rt bo ow:Nat} (h:TakeInv ps qs ps' qs' c1 c2 c3 c4 n up dn lf rt bo ow) (hn:ps.length=n) (hl:ps.length=qs.length) (P' Q' X Y hp hq:Nat)
  (eP:P'=vl 18446744073709551616 ps + 18446744073709551616^n*hp) (eQ:Q'=vl 18446744073709551616 qs + 18446744073709551616^n*hq) (eX:X+c2*Q'=c1*P') (eY:Y+c3*P'=c4*Q') (hX:X < 18446744073709551616^n) (hY:Y < 18446744073709551616^n):vl 18446744073709551616 ps'=X∧vl 18446744073709551616 qs'=Y:=by
 subst hn
 exact h.fin hl P' Q' X Y hp hq eP eQ eX eY hX hY
theorem stepsOf_any (vx vy:Value) (X Y:Nat) (w:World) (hx:Sl .u64 w vx (wd 18446744073709551616 X)) (hy:Sl .u64 w vy (wd 18446744073709551616 Y)) (h2:2≤(wd 18446744073709551616 Y).length) (hn:(wd 18446744073709551616 X).length<(wd 18446744073709551616 Y).length+2) (hle:Y≤X) (hl:(wd 18446744073709551616 X).length<268435456) :
  Calls Tryz.prog 172 #[vx,vy] w fun e w'=>∃ (xx xy yx yy:Nat) (back:Bool),e=.returned (.agg #[.int .u64 (xx:Int),.int .u64 (xy:Int),.int .u64 (yx:Int),.int .u64 (yy:Int),.bool back])∧xx < 18446744073709551616∧xy < 18446744073709551616∧yx < 18446744073709551616∧yy < 18446744073709551616∧StepsOK X Y xx xy yx yy back∧But [] w w':=by
 have hlen:=wd_len_mono hle
 rcases hx.open with ⟨e,-⟩ | ⟨-,b1,o1,c1,rfl,hc1,-,hcx⟩
 ·rw [e,List.length_nil] at hlen;omega
 rcases hy.open with ⟨e,-⟩ | ⟨-,b2,o2,c2,rfl,hc2,-,hcy⟩
 ·rw [e] at h2;simp at h2
 obtain ⟨m,hm⟩:∃ m,(wd 18446744073709551616 X).length=m+2:=⟨(wd 18446744073709551616 X).length-2,by omega⟩
 have hXp:0<X:=by
  rcases Nat.eq_zero_or_pos X with h | h
  ·subst h;rw [wd_zero] at hm;simp at hm
  ·exact h
 obtain ⟨t1,t2,-,-⟩:=top_pos X hXp
 have ht:topW X=(wd 18446744073709551616 X)[m+1]?.getD 0:=by unfold topW;rw [hm];rfl
 obtain ⟨z1,z2,-,-⟩:=lz_facts (topW X) t1 t2
 have eX:=two_top X m hm
 have lX:=vl_take_lt (wd 18446744073709551616 X) m (by omega) (wd_mem (by omega) X)
 have mX:=wd_mem (B:=18446744073709551616) (by omega) X
 have mY:=wd_mem (B:=18446744073709551616) (by omega) Y
 have k1:=hcx (m+1) (by omega)
 have k0:=hcx m (by omega)
 have bx0:=mem_getD mX (by omega:0 < 18446744073709551616) m
 rw [ht] at t1 t2 z1 z2
 obtain ⟨ε,e1,e2⟩:=lead_split ((wd 18446744073709551616 X)[m+1]?.getD 0) ((wd 18446744073709551616 X)[m]?.getD 0) m (lz ((wd 18446744073709551616 X)[m+1]?.getD 0)) _ z1 lX
 rw [← eX] at e1
 have haB:=top_sum _ _ _ z1 bx0 z2
 rcases Nat.lt_or_ge (wd 18446744073709551616 Y).length (m+2) with hsh | hsh
 ·have hny:(wd 18446744073709551616 Y).length=m+1:=by omega
  have eY:=one_top Y m hny
  have lY:=vl_take_lt (wd 18446744073709551616 Y) m (by omega) mY
  obtain ⟨δ,f1,f2⟩:=lead_split 0 ((wd 18446744073709551616 Y)[m]?.getD 0) m (lz ((wd 18446744073709551616 X)[m+1]?.getD 0)) _ z1 lY
  rw [← eY] at f1
  rw [Nat.zero_mul] at f1
  have hda:=lead_le _ _ _ _ _ X Y e1 f1 e2 hle
  exact stepsOf_less b1 o1 c1 b2 o2 c2 _ _ w ((wd 18446744073709551616 X)[m+1]?.getD 0) ((wd 18446744073709551616 X)[m]?.getD 0) 0 ((wd 18446744073709551616 Y)[m]?.getD 0) _ (0+(wd 18446744073709551616 Y)[m]?.getD 0/2^(64-lz ((wd 18446744073709551616 X)[m+1]?.getD 0))) (lz ((wd 18446744073709551616 X)[m+1]?.getD 0)) m X Y hm hny (by omega) k1 k0 (fun h=>by omega) (hcy m (by omega)) t1 t2 bx0 (by omega) (mem_getD mY (by omega) m) z1 (by show _=_;rfl) (by show _=_;rfl) (by show _=_;rw [if_neg (by omega)]) z2 (fun h=>by omega) haB (Nat.lt_of_le_of_lt hda haB) hda (fun a b xx xy yx yy back h=>StepsOK.of h X Y _ ε δ e1 f1 e2 f2) hc1 hc2
 ·have hny:(wd 18446744073709551616 Y).length=m+2:=by omega
  have eY:=two_top Y m hny
  have lY:=vl_take_lt (wd 18446744073709551616 Y) m (by omega) mY
  obtain ⟨δ,f1,f2⟩:=lead_split ((wd 18446744073709551616 Y)[m+1]?.getD 0) ((wd 18446744073709551616 Y)[m]?.getD 0) m (lz ((wd 18446744073709551616 X)[m+1]?.getD 0)) _ z1 lY
  rw [← eY] at f1
  have hda:=lead_le _ _ _ _ _ X Y e1 f1 e2 hle
  exact stepsOf_same b1 o1 c1 b2 o2 c2 _ _ w ((wd 18446744073709551616 X)[m+1]?.getD 0) ((wd 18446744073709551616 X)[m]?.getD 0) ((wd 18446744073709551616 Y)[m+1]?.getD 0) ((wd 18446744073709551616 Y)[m]?.getD 0) _ _ (lz ((wd 18446744073709551616 X)[m+1]?.getD 0)) m X Y hm hny (by omega) k1 k0 (fun _=>hcy (m+1) (by omega)) (hcy m (by omega)) t1 t2 bx0 (mem_getD mY (by omega) _) (mem_getD mY (by omega) m) z1 (by show _=_;rfl) (by show _=_;rfl) (by show _=_;rw [if_pos hny]) z2 (fun _=>Nat.lt_of_le_of_lt (Nat.le_trans (Nat.le_add_right _ _) hda) haB) haB (Nat.lt_of_le_of_lt hda haB) hda (fun a b xx xy yx yy back h=>StepsOK.of h X Y _ ε δ e1 f1 e2 f2) hc1 hc2
def Less (lo:Nat) (w:World) (X Y:Nat) (e:Ending) (w':World):Prop:=∃ v1 v2 X' Y',e=.returned (.tuple #[v1,v2])∧Pair lo w' v1 v2 X' Y'∧Y'≤X'∧Y' < Y∧X'≤X∧Nat.gcd X' Y'=Nat.gcd X Y∧∃ l:List Nat,(∀ x ∈ l,lo≤x)∧But l w w'
theorem gcd_mod (X Y:Nat):Nat.gcd Y (X%Y)=Nat.gcd X Y:=by rw [Nat.gcd_comm X Y,Nat.gcd_rec Y X,Nat.gcd_comm]
theorem taken_any (lo:Nat) (vx vy:Value) (X Y xx xy yx yy:Nat) (back:Bool) (w:World) (hp:Pair lo w vx vy X Y) (h2:2≤(wd 18446744073709551616 Y).length) (hle:Y≤X) (hl:(wd 18446744073709551616 X).length<1073741824) (hxx:xx < 18446744073709551616) (hxy:xy < 18446744073709551616) (hyx:yx < 18446744073709551616) (hyy:yy < 18446744073709551616) (hs:StepsOK X Y xx xy yx yy back) (hne:xy≠0) :
  Calls Tryz.prog 173 #[.agg #[.int .u64 (xx:Int),.int .u64 (xy:Int),.int .u64 (yx:Int),.int .u64 (yy:Int),.bool back],vx,vy] w fun e w'=>Less lo w X Y e w':=by
 have hlen:=wd_len_mono hle
 rcases hs with h0 | ⟨X',Y',hrel,hlt,hXY,hg⟩
 ·exact absurd h0 hne
 have mX:=wd_mem (B:=18446744073709551616) (by omega) X
 have mY:=wd_mem (B:=18446744073709551616) (by omega) Y
 rcases hp.s1.open with ⟨e,-⟩ | ⟨-,g1,o1,c1,rfl,hc1,-,-⟩
 ·rw [e,List.length_nil] at hlen;omega
 rcases hp.s2.open with ⟨e,-⟩ | ⟨-,g2,o2,c2,rfl,hc2,-,-⟩
 ·rw [e] at h2;simp at h2
 have hap:g1≠g2:=hp.ap _ _ _ _ _ _ _ _ rfl rfl
 obtain ⟨l1,f1⟩:=hp.o1 _ _ _ _ rfl
 obtain ⟨l2,f2⟩:=hp.o2 _ _ _ _ rfl
 have s1:=hp.s1.seg f1
 have s2:=hp.s2.seg f2
 have sP:=s1.sub 0 (wd 18446744073709551616 Y).length (by omega)
 rw [List.drop_zero,Nat.add_zero] at sP
 have lP:((wd 18446744073709551616 X).take (wd 18446744073709551616 Y).length).length=(wd 18446744073709551616 Y).length:=by rw [List.length_take];omega
 have eP:=vl_drop_div (wd 18446744073709551616 X) (wd 18446744073709551616 Y).length hlen
 rw [vl_wd (by omega)] at eP
 have eQ:Y=vl 18446744073709551616 (wd 18446744073709551616 Y) + 18446744073709551616^(wd 18446744073709551616 Y).length*0:=by rw [vl_wd (by omega)];omega
 have hYl:=lt_wd Y
 have mP:∀ x ∈ (wd 18446744073709551616 X).take (wd 18446744073709551616 Y).length,x < 18446744073709551616:=fun x hx=>mX x (List.mem_of_mem_take hx)
 cases back
 ·simp only [Bool.false_eq_true,if_false] at hrel
  refine (taken_fwd g1 o1 c1 g2 o2 c2 _ _ ((wd 18446744073709551616 X).take (wd 18446744073709551616 Y).length) (wd 18446744073709551616 Y) w xx xy yx yy hxx hxy hyx hyy hap sP s2 lP rfl (by omega) hlen hc1 hc2 hl mP mY X' Y' (fun ps' qs' u d l r b o h=>?_)).mono ?_
  ·exact h.fin' lP lP X Y X' Y' _ 0 eP eQ hrel.1 hrel.2 (by omega) (by omega)
  ·rintro e w' ⟨v1,v2,rfl,h1,h2',hb,ho1,ho2⟩
   exact ⟨v1,v2,X',Y',rfl,⟨h1,h2',ho1.own l1,ho2.own l2,fun b off n c b' off' n' c' e1 e2=>by rw [(ho1 _ _ _ _ e1).1,(ho2 _ _ _ _ e2).1];exact hap⟩,by omega,by omega,by omega,hg,[g1,g2],fun x hx=>by simp at hx;rcases hx with rfl | rfl <;> assumption,hb⟩
 ·simp only [if_true] at hrel
  refine (taken_back g1 o1 c1 g2 o2 c2 _ _ (wd 18446744073709551616 Y) ((wd 18446744073709551616 X).take (wd 18446744073709551616 Y).length) w xx xy yx yy hxx hxy hyx hyy hap sP s2 rfl lP (by omega) hlen hc1 hc2 hl mY mP X' Y' (fun ps' qs' u d l r b o h=>?_)).mono ?_
  ·exact h.fin' rfl lP.symm Y X X' Y' 0 _ eQ eP hrel.1 hrel.2 (by omega) (by omega)
  ·rintro e w' ⟨v1,v2,rfl,h1,h2',hb,ho1,ho2⟩
   exact ⟨v1,v2,X',Y',rfl,⟨h1,h2',ho1.own l2,ho2.own l1,fun b off n c b' off' n' c' e1 e2=>by rw [(ho1 _ _ _ _ e1).1,(ho2 _ _ _ _ e2).1];exact hap.symm⟩,by omega,by omega,by omega,hg,[g1,g2],fun x hx=>by simp at hx;rcases hx with rfl | rfl <;> assumption,hb⟩
end Go.Proofs.YtollloafckcogaaGreatDoor

namespace Go.Proofs.YtollloafckcogaaGreatDoor
open Go.RowKit
set_option maxHeartbeats 4000000
set_option maxRecDepth 100000
theorem natQuoRem_of (vx vy:Value) (X Y:Nat) (w:World) (hx:Sl .u64 w vx (wd 18446744073709551616 X)) (hy:Sl .u64 w vy (wd 18446744073709551616 Y)) (hY:0<Y) (hl:(wd 18446744073709551616 X).length<134217728) (hly:(wd 18446744073709551616 Y).length<134217728)
  (hD:2≤(wd 18446744073709551616 Y).length→Y≤X→DivideW (X*2^lz (topW Y)) (Y*2^lz (topW Y))) :
  Calls Tryz.prog 127 #[vx,vy] w fun e w'=>∃ v1 v2,e=.returned (.tuple #[v1,v2])∧Sl .u64 w' v1 (wd 18446744073709551616 (X/Y))∧Sl .u64 w' v2 (wd 18446744073709551616 (X%Y))∧But [] w w'∧Heir w vx w' v2:=by
 have hcmp:=natCmp_any vx vy X Y w hx hy (by omega) (by omega)
 rcases Nat.lt_or_ge X Y with hlt | hge
 ·rw [cmpN_lt hlt] at hcmp
  rw [Nat.div_eq_of_lt hlt,Nat.mod_eq_of_lt hlt,wd_zero]
  have HC:=hide hcmp
  have HX:=hide hx
  obtain ⟨a1,c1,rfl,-,-⟩:=hx
  obtain ⟨a2,c2,rfl,-,-⟩:=hy
  clear hcmp hD
  generalize (wd 18446744073709551616 X).length=nx at *
  generalize (wd 18446744073709551616 Y).length=ny at *
  go_enter Tryz.func127,Tryz.ntmps127
  go_wp2_with fail
  refine (unhide HC).mono ?_
  rintro e w1 ⟨rfl,q,rfl⟩
  go_wp2
  go_ret2
  exact ⟨_,_,rfl,Sl.nil _ _,unhide HX,(But.refl _ _).drewN q,Heir.self _ _ _⟩
 ·have hc0:=cmpN_ge hge
  generalize cmpN X Y=r at *
  have hr:decide (r<0)=false:=by simp;omega
  have HC:=hide hcmp
  have HX:=hide hx
  have HY:=hide hy
  rcases hy.open with ⟨e,-⟩ | ⟨hp,b2,o2,c2,rfl,hc2,-,hcell⟩
  ·rw [wd_nil_iff (by omega)] at e;omega
  obtain ⟨a1,c1,rfl,-,-⟩:=hx
  by_cases h1:(wd 18446744073709551616 Y).length=1
  ·have hYB:Y < 18446744073709551616:=by
    have:=lt_of_wd_length (B:=18446744073709551616) (by omega) Y 1 (by omega)
    rw [Nat.pow_one] at this
    exact this
   have hc:=hcell 0 (by omega)
   rw [Nat.add_zero,wd_word Y hY hYB] at hc
   simp only [List.getElem?_cons_zero,Option.getD_some] at hc
   have HB:=hide (fun (W:World) (h:Sl .u64 W (.slice a1 (wd 18446744073709551616 X).length c1) (wd 18446744073709551616 X))=>byWord_any _ X Y W h (by omega) hY hYB)
   have hmod:X%Y < 18446744073709551616:=Nat.lt_trans (Nat.mod_lt _ hY) hYB
   clear hcmp hD hcell hy
   generalize hnx:(wd 18446744073709551616 X).length=nx at *
   generalize hny:(wd 18446744073709551616 Y).length=ny at *
   clear hnx hny
   have e1:((ny:Int)==1)=true:=beq_iff_eq.2 (by omega)
   have hp1:(0:Int)<(ny:Int):=by omega
   have HE:=hide h1
   clear h1
   go_enter Tryz.func127,Tryz.ntmps127
   go_wp2_with fail
   refine (unhide HC).mono ?_
   rintro e w1 ⟨rfl,q,rfl⟩
   go_wp2_with fail
   refine (unhide HB _ (by exact unhide HX)).mono ?_
   rintro e w2 ⟨v1,rfl,hv1,hb2⟩
   have B2:Hid (But [] w w2):=((But.refl [] _).drewN q).trans' hb2
   have HV1:=hide hv1
   clear hb2 hv1
   go_wp2_with fail
   refine (natOf_any (X%Y) hmod _).mono ?_
   rintro e w3 ⟨v2,rfl,hv2,hb3,ho3⟩
   have ALL:=hide (And.intro ((unhide HV1).but_nil hb3) (And.intro hv2 (And.intro ((unhide B2).trans' hb3) (ho3.mono (unhide B2).size))))
   clear hv2 hb3 ho3
   go_wp2
   go_ret2
   exact ⟨v1,v2,rfl,(unhide ALL).1,(unhide ALL).2.1,(unhide ALL).2.2.1,Heir.of_own (unhide ALL).2.2.2⟩
  ·obtain ⟨t1,t2,-,-⟩:=top_pos Y hY
   have hs:=(lz_facts (topW Y) t1 t2).1
   have hDO:=hD (by omega) hge
   have hct:=hcell ((wd 18446744073709551616 Y).length-1) (by omega)
   have LZ:=hide (fun W=>lead_any (topW Y) t1 t2 W)
   have hnl:=norm_len Y hY
   have hsl:=shl_len X (lz (topW Y)) hs
   rw [show (wd 18446744073709551616 Y)[(wd 18446744073709551616 Y).length-1]?.getD 0=topW Y from rfl] at hct
   have HL1:=hide (fun (W:World) (h:Sl .u64 W (.slice a1 (wd 18446744073709551616 X).length c1) (wd 18446744073709551616 X))=>natLeft_any _ X (lz (topW Y)) W h (by omega) hs)
   have HL2:=hide (fun (W:World) (h:Sl .u64 W (.slice (some ⟨b2,o2,none⟩) (wd 18446744073709551616 Y).length c2) (wd 18446744073709551616 Y))=>natLeft_any _ Y (lz (topW Y)) W h (by omega) hs)
   have hz:0<2^lz (topW Y):=Nat.pow_pos (by omega)
   have HDO:=hide hDO
   unfold DivideW at HDO
   rw [Nat.mul_div_mul_right _ _ hz,Nat.mul_mod_mul_right] at HDO
   have hrl:(wd 18446744073709551616 (X%Y*2^lz (topW Y))).length<1073741824:=by
    have:=shl_len (X%Y) (lz (topW Y)) hs
    have h3:=wd_len_mono (Nat.mod_le X Y)
    omega
   have HRR:=hide (fun (v:Value) (W:World) (h:Sl .u64 W v (wd 18446744073709551616 (X%Y*2^lz (topW Y))))=>natRight_any v (X%Y*2^lz (topW Y)) (lz (topW Y)) W h hrl hs)
   rw [Nat.mul_div_cancel _ hz] at HRR
   clear hcmp hD hDO hcell hy hnl hsl hz
   generalize lz (topW Y)=s at *
   generalize topW Y=t at *
   generalize hnx:(wd 18446744073709551616 X).length=nx at *
   generalize hny:(wd 18446744073709551616 Y).length=ny at *
   clear hnx hny
   have e1:((ny:Int)==1)=false:=beq_eq_false_iff_ne.2 (by omega)
   go_enter Tryz.func127,Tryz.ntmps127
   go_wp2_with fail
   refine (unhide HC).mono ?_
   rintro e w1 ⟨rfl,q,rfl⟩
   go_wp2_with fail
   refine (unhide LZ _).mono ?_
   rintro e w1 ⟨rfl,hw⟩
   obtain rfl:=hw.symm
   clear hw
   go_wp2_with fail
   refine (unhide HL1 _ (by exact unhide HX)).mono ?_
   rintro e w2 ⟨v1,rfl,hv1,hb2,hp2⟩
   have B2:Hid (But [] w w2):=((But.refl [] _).drewN q).trans' hb2
   have HE1:Hid (Heir w (.slice a1 nx c1) w2 v1):=by
    rcases hp2 with rfl | ho
    ·exact Heir.self _ _ _
    ·exact (Heir.of_own ho).pre (Nat.le_refl _)
   have HV1:=hide hv1
   clear hb2 hv1 hp2
   go_wp2_with fail
   refine (unhide HL2 _ ((unhide HY).but_nil (unhide B2))).mono ?_
   rintro e w3 ⟨v2,rfl,hv2,hb3,-⟩
   have B3:Hid (But [] w w3):=(unhide B2).trans' hb3
   have HV2:=hide hv2
   have HV1':=hide ((unhide HV1).but_nil hb3)
   have HE1':=hide ((unhide HE1).but (unhide HV1) hb3)
   clear hv2 hb3 HV1 HE1
   go_wp2_with fail
   refine (unhide HDO v1 v2 _ (unhide HV1') (unhide HV2)).mono ?_
   rintro e w4 ⟨v3,v4,rfl,hv3,hv4,hb4,he4⟩
   have B4:Hid (But [] w w4):=(unhide B3).trans' hb4
   have H3:=hide hv3
   have H4:=hide hv4
   have HE4:=hide ((unhide HE1').trans (unhide HV1') hb4 (unhide B3).size he4)
   clear hv3 hv4 hb4 he4 HE1'
   go_wp2_with fail
   refine (unhide HRR v4 _ (unhide H4)).mono ?_
   rintro e w5 ⟨v5,rfl,hv5,hb5,hp5⟩
   have HE5:Heir w (.slice a1 nx c1) w5 v5:=by
    rcases hp5 with rfl | ho
    ·exact (unhide HE4).but (unhide H4) hb5
    ·exact (Heir.of_own ho).pre (unhide B4).size
   have ALL:=hide (And.intro ((unhide H3).but_nil hb5) (And.intro hv5 (And.intro ((unhide B4).trans' hb5) HE5)))
   clear hv5 hb5 hp5 HE5 HE4
   go_wp2
   go_ret2
   exact ⟨v3,v5,rfl,(unhide ALL).1,(unhide ALL).2.1,(unhide ALL).2.2.1,(unhide ALL).2.2.2⟩
def Short (X _Y:Nat):Prop:=(wd 18446744073709551616 X).length≤1000000
theorem Short.of (X Y:Nat) (h:(wd 18446744073709551616 X).length≤1000000):Short X Y:=h
theorem natQuoRem_any (vx vy:Value) (X Y:Nat) (w:World) (hx:Sl .u64 w vx (wd 18446744073709551616 X)) (hy:Sl .u64 w vy (wd 18446744073709551616 Y)) (hY:0<Y) (hl:(wd 18446744073709551616 X).length<134217728) (hly:(wd 18446744073709551616 Y).length<134217728) (hs:Short X Y) :
  Calls Tryz.prog 127 #[vx,vy] w fun e w'=>∃ v1 v2,e=.returned (.tuple #[v1,v2])∧Sl .u64 w' v1 (wd 18446744073709551616 (X/Y))∧Sl .u64 w' v2 (wd 18446744073709551616 (X%Y))∧But [] w w'∧Heir w vx w' v2 :=
 natQuoRem_of vx vy X Y w hx hy hY hl hly (fun h2 hle=>by
  obtain ⟨t1,t2,-,-⟩:=top_pos Y hY
  have hz:=(lz_facts (topW Y) t1 t2).1
  have h3:=norm_len Y hY
  have h4:=shl_len X (lz (topW Y)) hz
  have h5:=wd_len_mono hle
  unfold Short at hs
  exact divideW_all (wd 18446744073709551616 (X*2^lz (topW Y))).length _ _ (Nat.le_refl _) (by omega) (by omega))
theorem natQuo_any (vx vy:Value) (X Y:Nat) (w:World) (hx:Sl .u64 w vx (wd 18446744073709551616 X)) (hy:Sl .u64 w vy (wd 18446744073709551616 Y)) (hY:0<Y) (hl:(wd 18446744073709551616 X).length<134217728) (hly:(wd 18446744073709551616 Y).length<134217728) (hs:Short X Y) :
  Calls Tryz.prog 110 #[vx,vy] w fun e w'=>∃ v1,e=.returned v1∧Sl .u64 w' v1 (wd 18446744073709551616 (X/Y))∧But [] w w':=by
 have HX:=hide hx
 have HQ:=hide (natQuoRem_any vx vy X Y w hx hy hY hl hly hs)
 have HO:=hide (fun r hr=>natOne_any vy Y w hy (by omega) r hr)
 obtain ⟨a1,c1,rfl,-,-⟩:=hx
 obtain ⟨a2,c2,rfl,-,-⟩:=hy
 clear hs
 generalize (wd 18446744073709551616 X).length=nx at *
 generalize (wd 18446744073709551616 Y).length=ny at *
 by_cases h1:Y=1
 ·subst h1
  rw [Nat.div_one]
  go_enter Tryz.func110,Tryz.ntmps110
  go_wp2_with fail
  refine (unhide HO true (by show true=_;simp)).mono ?_
  rintro e w1 ⟨rfl,hw⟩
  obtain rfl:=hw.symm
  clear hw
  go_wp2
  go_ret
  exact ⟨_,rfl,unhide HX,But.refl _ _⟩
 ·go_enter Tryz.func110,Tryz.ntmps110
  go_wp2_with fail
  refine (unhide HO false (by show false=_;simp [h1])).mono ?_
  rintro e w1 ⟨rfl,hw⟩
  obtain rfl:=hw.symm
  clear hw
  go_wp2_with fail
  refine (unhide HQ).mono ?_
  rintro e w2 ⟨v1,v2,rfl,hv1,-,hb2,-⟩
  have ALL:=hide (And.intro hv1 hb2)
  clear hv1 hb2
  go_wp2
  go_ret
  exact ⟨v1,rfl,(unhide ALL).1,(unhide ALL).2⟩
end Go.Proofs.YtollloafckcogaaGreatDoor

namespace Go.Proofs.YtollloafckcogaaGreatDoor
open Go.RowKit
set_option maxHeartbeats 4000000
set_option maxRecDepth 100000
theorem quo_less {lo:Nat} {W w':World} {vx vy v2:Value} {X Y:Nat} (hp:Pair lo W vx vy X Y) (hY:0<Y) (hle:Y≤X) (hlo:lo≤W.heap.size) (h2:Sl .u64 w' v2 (wd 18446744073709551616 (X%Y))) (hb:But [] W w') (he:Heir W vx w' v2):Less lo W X Y (.returned (.tuple #[vy,v2])) w' :=
 ⟨vy,v2,Y,X%Y,rfl,⟨hp.s2.but_nil hb,h2,hp.o2.but hp.s2 hb,he.own hp.o1 hlo hp.s1 hb,fun b off n c b' off' n' c' e1 e2=>by
  have hpos:0<(wd 18446744073709551616 Y).length:=by rw [Nat.pos_iff_ne_zero];intro e;rw [wd_len_zero (by omega)] at e;omega
  have h4:=hp.s2.lt hpos b off n c e1
  rcases he _ _ _ _ e2 with ⟨h3,-⟩ | ⟨o0,n0,c0,e0,-,-⟩
  ·omega
  ·exact fun e=>hp.ap _ _ _ _ _ _ _ _ e0 e1 e.symm⟩,Nat.le_of_lt (Nat.mod_lt _ hY),Nat.mod_lt _ hY,hle,gcd_mod X Y,[],by simp,hb⟩
theorem Less.pre {lo:Nat} {w W:World} {X Y:Nat} {e:Ending} {w':World} (h:Less lo W X Y e w') (hb:But [] w W):Less lo w X Y e w':=by
 obtain ⟨v1,v2,X',Y',h1,h2,h3,h4,h5,h6,l,h7,h8⟩:=h
 exact ⟨v1,v2,X',Y',h1,h2,h3,h4,h5,h6,l,h7,(But.of_nil hb).trans h8 (fun x hx=>.inl hx)⟩
theorem lessened_any (lo:Nat) (vx vy:Value) (X Y:Nat) (w:World) (hp:Pair lo w vx vy X Y) (h2:2≤(wd 18446744073709551616 Y).length) (hle:Y≤X) (hl:(wd 18446744073709551616 X).length≤1000000) (hlo:lo≤w.heap.size) :
  Calls Tryz.prog 144 #[vx,vy] w fun e w'=>Less lo w X Y e w':=by
 have hlen:=wd_len_mono hle
 have hY:0<Y:=by
  rcases Nat.eq_zero_or_pos Y with h | h
  ·subst h;rw [wd_zero] at h2;simp at h2
  ·exact h
 have HQ:=hide (fun (W:World) (h:Pair lo W vx vy X Y)=>natQuoRem_any vx vy X Y W h.s1 h.s2 hY (by omega) (by omega) (Short.of X Y hl))
 have HT:=hide (fun (W:World) (h:Pair lo W vx vy X Y) xx xy yx yy back=>taken_any lo vx vy X Y xx xy yx yy back W h h2 hle (by omega))
 have HS:=hide (fun (h:(wd 18446744073709551616 X).length<(wd 18446744073709551616 Y).length+2)=>stepsOf_any vx vy X Y w hp.s1 hp.s2 h2 h hle (by omega))
 have HP:=hide hp
 obtain ⟨a1,c1,rfl,-,-⟩:=hp.s1
 obtain ⟨a2,c2,rfl,-,-⟩:=hp.s2
 clear hp
 have HLO:=hide hlo
 clear hlo
 generalize (wd 18446744073709551616 X).length=nx at *
 generalize (wd 18446744073709551616 Y).length=ny at *
 by_cases hn:nx<ny+2
 ·go_enter Tryz.func144,Tryz.ntmps144
  go_wp2_with fail
  refine (unhide HS hn).mono ?_
  rintro e w1 ⟨xx,xy,yx,yy,back,rfl,hxx,hxy,hyx,hyy,hok,hb1⟩
  have HOK:=hide hok
  have HB1:=hide hb1
  clear hok hb1 HS
  have BW:Hid (But [] w (w1.alloc (.cells #[.int .u64 (xx:Int),.int .u64 (xy:Int),.int .u64 (yx:Int),.int .u64 (yy:Int),.bool back] 222))):=(unhide HB1).alloc _
  by_cases h0:xy=0
  ·subst h0
   go_wp2_with fail
   refine (unhide HQ _ ((unhide HP).but (unhide BW))).mono ?_
   rintro e w2 ⟨v1,v2,rfl,-,hv2,hb2,ho2⟩
   have R:=hide ((quo_less ((unhide HP).but (unhide BW)) hY hle (Nat.le_trans (unhide HLO) (unhide BW).size) hv2 hb2 ho2).pre (unhide BW))
   clear hv2 hb2 ho2
   go_wp2
   go_ret2
   exact unhide R
  ·have hz:((xy:Int) != 0)=true:=by simp;exact h0
   go_wp2_with fail
   refine (unhide HT _ ((unhide HP).but (unhide BW)) xx xy yx yy back hxx hxy hyx hyy (unhide HOK) h0).mono ?_
   intro e w2 hless
   obtain ⟨v1,v2,X',Y',rfl,hrest⟩:=hless
   have R:=hide ((show Less lo _ X Y (.returned (.tuple #[v1,v2])) w2 from ⟨v1,v2,X',Y',rfl,hrest⟩).pre (unhide BW))
   clear hrest
   go_wp2
   go_ret2
   exact unhide R
 ·go_enter Tryz.func144,Tryz.ntmps144
  go_wp2_with fail
  refine (unhide HQ _ (unhide HP)).mono ?_
  rintro e w2 ⟨v1,v2,rfl,-,hv2,hb2,ho2⟩
  have R:=hide (quo_less (unhide HP) hY hle (unhide HLO) hv2 hb2 ho2)
  clear hv2 hb2 ho2
  go_wp2
  go_ret2
  exact unhide R
end Go.Proofs.YtollloafckcogaaGreatDoor

namespace Go.Proofs.YtollloafckcogaaGreatDoor
open Go.RowKit
set_option maxHeartbeats 4000000
set_option maxRecDepth 100000
def tenP (j:Nat):Nat:=10^(608*2^j)
theorem tenP_zero:tenP 0=10^608:=by unfold tenP;rw [Nat.pow_zero,Nat.mul_one]
theorem tenP_succ (j:Nat):tenP (j+1)=tenP j*tenP j:=by
 unfold tenP
 rw [← Nat.pow_add,Nat.pow_succ,← Nat.mul_two,Nat.mul_assoc]
theorem tenP_pos (j:Nat):0<tenP j:=Nat.pow_pos (by omega)
theorem tenP_gt (j:Nat):j<tenP j:=by
 unfold tenP
 have h1:j<2^j:=Nat.lt_two_pow_self
 have h2:608*2^j<10^(608*2^j):=Nat.lt_pow_self (by omega)
 omega
theorem tenP_below (X j n:Nat) (hl:(wd 18446744073709551616 X).length≤n) (h:tenP j≤X):1824*2^j<64*n:=by
 have h1:X < 18446744073709551616^n:=lt_of_wd_length (by omega) X _ hl
 have h2:(2:Nat)^(1824*2^j)≤tenP j:=by
  unfold tenP
  have e:(2:Nat)^(1824*2^j)=(2^3)^(608*2^j):=by rw [← Nat.pow_mul,← Nat.mul_assoc]
  rw [e]
  exact Nat.pow_le_pow_left (by omega) _
 have h3:(18446744073709551616:Nat)^n=2^(64*n):=by rw [Nat.pow_mul]
 rw [h3] at h1
 have h4:(2:Nat)^(1824*2^j)<2^(64*n):=Nat.lt_of_le_of_lt h2 (Nat.lt_of_le_of_lt h h1)
 exact (Nat.pow_lt_pow_iff_right (by omega:1<2)).1 h4
theorem info_nat:∃ i,Tryz.prog.info? 82 = some i∧i.zero=some (.slice none 0 0)∧i.size=1∧i.bytes=24:=by
 have h:(Tryz.prog.info? 82).map (fun i=>(i.zero,i.size,i.bytes))=some (some (.slice none 0 0),1,24):=by kernel_rfl
 obtain ⟨i,hi,he⟩:=Option.map_eq_some_iff.1 h
 simp only [Prod.mk.injEq] at he
 exact ⟨i,hi,he.1,he.2.1,he.2.2⟩
theorem keep_grown_of {w w':World} {base:Nat} {e:TypeId} {vo:Value} {n:Nat} {xs:List Value} (ho:w.ownsRow base e 1 vo n xs) (hn:vo=.slice none 0 0∨∃ u,xs[0]? = some u∧∀ m:Int,u≠.int .u64 m) (hg:w.grownBy w' vo.ownBlock):Keep64 w w':=by
 intro v ws hs
 cases hb:vo.ownBlock with
 | none=>rw [hb] at hg;exact hs.but_nil (grown_but_none hg)
 | some g =>
  rw [hb] at hg
  rcases hn with rfl | ⟨u,hu,hne⟩
  ·simp [Value.ownBlock] at hb
  ·have hc:=ho.cells hb 0 u hu
   rw [show (⟨g,0,none⟩:Addr).add 0=⟨g,0,none⟩ from by simp [Addr.add]] at hc
   exact hs.over (grown_but hg) hc hne
structure PowAt (w:World) (X:Nat) (us:List Value) (vo vp:Value) (wr:World):Prop where
 own:wr.ownsRow w.heap.size 82 1 vo us.length us
 all:∀ j u,us[j]? = some u→Sl .u64 wr u (wd 18446744073709551616 (tenP j))
 pow:Sl .u64 wr vp (wd 18446744073709551616 (tenP us.length))
 but:But [] w wr
 low:∀ j,j<us.length→tenP j≤X
 nil:vo=.slice none 0 0∨0<us.length
theorem PowAt.le {w:World} {X:Nat} {us:List Value} {vo vp:Value} {wr:World} (h:PowAt w X us vo vp wr):us.length≤X:=by
 rcases Nat.eq_zero_or_pos us.length with h0 | h0
 ·omega
 ·have h1:=h.low (us.length-1) (by omega)
  have h2:=tenP_gt (us.length-1)
  omega
theorem PowAt.first {w:World} {X:Nat} {us:List Value} {vo vp:Value} {wr:World} (h:PowAt w X us vo vp wr):vo=.slice none 0 0∨∃ u,us[0]? = some u∧∀ m:Int,u≠.int .u64 m:=by
 rcases h.nil with h0 | h0
 ·exact .inl h0
 ·refine .inr ⟨us[0],List.getElem?_eq_getElem h0,fun m e=>?_⟩
  have:=h.all 0 us[0] (List.getElem?_eq_getElem h0)
  rw [e] at this
  obtain ⟨a,c,h1,-⟩:=this
  simp at h1
theorem PowAt.drewN {w:World} {X:Nat} {us:List Value} {vo vp:Value} {wr:World} (h:PowAt w X us vo vp wr) (q:Nat):PowAt w X us vo vp (wr.drewN q) :=
 ⟨owns_but h.own ((But.refl [] _).drewN q),fun j u hj=>(h.all j u hj).but_nil ((But.refl [] _).drewN q),h.pow.but_nil ((But.refl [] _).drewN q),h.but.drewN q,h.low,h.nil⟩
theorem PowAt.plen {w:World} {X:Nat} {us:List Value} {vo vp:Value} {wr:World} (h:PowAt w X us vo vp wr):(wd 18446744073709551616 (tenP us.length)).length≤(wd 18446744073709551616 X).length+(wd 18446744073709551616 X).length+33:=by
 rcases Nat.eq_zero_or_pos us.length with h0 | h0
 ·rw [h0,tenP_zero]
  have:=wd_length_le (B:=18446744073709551616) (by omega) _ _ ten608
  omega
 ·obtain ⟨j,hj⟩:∃ j,us.length=j+1:=⟨us.length-1,by omega⟩
  have h1:=wd_len_mono (h.low j (by omega))
  have h2:=wd_len_mul (tenP j) (tenP j)
  rw [hj,tenP_succ]
  omega
theorem PowAt.more {w:World} {X:Nat} {us:List Value} {vo vp:Value} {wr:World} (h:PowAt w X us vo vp wr) (hle:tenP us.length≤X) (hul:us.length<35088) (W:World) (hW:W=wr.alloc (.cells #[vp] 82)) :
  ∃ v3 w3,(Builtin.append_ #[138,138] 138 #[vo,.slice (some ⟨wr.heap.size,0,none⟩) 1 1]).run Tryz.prog W=.ok v3 w3∧w3.ownsRow w.heap.size 82 1 v3 (us++[vp]).length (us++[vp])∧(∀ j u,(us++[vp])[j]? = some u→Sl .u64 w3 u (wd 18446744073709551616 (tenP j)))∧Sl .u64 w3 vp (wd 18446744073709551616 (tenP us.length))∧But [] w w3∧(∀ j,j<(us++[vp]).length→tenP j≤X)∧Keep64 wr w3:=by
 obtain ⟨i0,hi,hz0,hz1,hz2⟩:=info_nat
 subst hW
 have hp1:vp.oneCell'=true:=by
  obtain ⟨a,c,rfl,-⟩:=h.pow
  rfl
 have hc:(wr.alloc (.cells #[vp] 82)).cell? ⟨wr.heap.size,0,none⟩=some vp:=by simp
 have hbs:=h.but.size
 obtain ⟨v3,w3,hr,ho,hg,-⟩:=run_append_own (P:=Tryz.prog) (wr.alloc (.cells #[vp] 82)) w.heap.size 138 138 82 i0 (.slice none 0 0) 1 24 Tryz.underlying138 hi hz0 hz1 hz2 rfl (by decide) vo us.length us (h.own.alloc _) ⟨wr.heap.size,0,none⟩ 1 1 [vp] rfl (fun j u hj=>by
  cases j with
  | zero=>simp at hj;subst hj;rw [show (⟨wr.heap.size,0,none⟩:Addr).add 0=⟨wr.heap.size,0,none⟩ from by simp [Addr.add]];exact hc
  | succ j=>simp at hj) (fun u hu=>by simp at hu;subst hu;exact hp1) (by unfold maxLen;omega) (by omega) (by simp;omega)
 have hK:Keep64 wr w3:=(Keep64.of_but ((But.refl [] wr).alloc _)).trans (keep_grown_of (h.own.alloc _) h.first hg)
 refine ⟨v3,w3,hr,by rw [List.length_append];exact ho,fun j u hj=>?_,hK _ _ h.pow,(h.but.alloc _).grown hg (fun k hk=>(h.own.lt k hk).1),fun j hj=>?_,hK⟩
 ·rcases Nat.lt_or_ge j us.length with hl | hl
  ·rw [List.getElem?_append_left hl] at hj
   exact hK _ _ (h.all j u hj)
  ·have he:j=us.length:=by
    have:=(List.getElem?_eq_some_iff.1 hj).1
    simp at this
    omega
   subst he
   simp at hj
   subst hj
   exact hK _ _ h.pow
 ·simp at hj
  rcases Nat.lt_or_ge j us.length with hl | hl
  ·exact h.low j hl
  ·rw [show j=us.length from by omega];exact hle
theorem powersFor_any (v:Value) (X:Nat) (w:World) (hv:Sl .u64 w v (wd 18446744073709551616 X)) (hl:(wd 18446744073709551616 X).length≤1000000) :
  Calls Tryz.prog 84 #[v] w fun e w'=>∃ vo us,e=.returned vo∧w'.ownsRow w.heap.size 82 1 vo us.length us∧(∀ j u,us[j]? = some u→Sl .u64 w' u (wd 18446744073709551616 (tenP j)))∧But [] w w'∧(∀ j,j<us.length→tenP j≤X)∧X<tenP us.length:=by
 have h10:(wd 18446744073709551616 (10^608)).length≤33:=wd_length_le (by omega) _ _ ten608
 have h1:(wd 18446744073709551616 10).length≤1:=wd_length_le (by omega) _ _ (by omega)
 have PW:Hid (∀ (v1:Value) (W:World),Sl .u64 W v1 (wd 18446744073709551616 10)→Calls Tryz.prog 128 #[v1,.int .i64 608] W fun e w'=>∃ v',e=.returned v'∧Sl .u64 w' v' (wd 18446744073709551616 (tenP 0))∧But [] W w'):=fun v1 W h=>by
  rw [tenP_zero]
  exact natPow_any v1 10 608 W h (by omega) (by omega) (Nat.lt_of_le_of_lt (Nat.add_le_add h1 h10) (by omega))
 have HV:=hide hv
 have HLX:=hide hl
 clear hv h10 h1 hl
 obtain ⟨xa,xc,rfl,-,-⟩:=unhide HV
 generalize hnx:(wd 18446744073709551616 X).length=nx at *
 have NX:=hide hnx
 clear hnx
 go_enter Tryz.func84,Tryz.ntmps84
 go_wp2_with fail
 refine (natOf_any 10 (by omega) _).mono ?_
 rintro e w1 ⟨v1,rfl,hv1,hb1,-⟩
 have H1:=hide hv1
 have B1:=hide hb1
 clear hv1 hb1
 go_wp2_with fail
 refine (unhide PW v1 _ (unhide H1)).mono ?_
 rintro e w2 ⟨v2,rfl,hv2,hb2⟩
 have A0:Hid (∃ us,PowAt w X us (.slice none 0 0) v2 w2∧X+1+us.length=X+1 ):=⟨[],⟨World.ownsRow_nil _ _ _ _,fun j u h=>by simp at h,hv2,(unhide B1).trans' hb2,fun j h=>by simp at h,.inl rfl⟩,by simp⟩
 clear hv2 hb2 B1 H1 PW
 go_wp2_with fail
 go_loopg [3,4] (X+1) (fun k vo vp wr=>Hid (∃ us,PowAt w X us vo vp wr∧k+us.length=X+1))
 case atStart=>exact A0
 case round =>
  clear A0
  obtain ⟨us,hI,hk⟩:=unhide hrel
  clear hrel
  rename World=>wr
  obtain ⟨oa,oc,hoe⟩:=owns_shape hI.own
  have hpl:=hI.plen
  rw [unhide NX] at hpl
  have hlx:=unhide HLX
  have CM:=hide (natCmp_any _ _ (tenP us.length) X wr hI.pow ((unhide HV).but_nil hI.but) (by omega) (by rw [unhide NX];omega))
  obtain ⟨pa,pc,hpe,-,-⟩:=id hI.pow
  rcases Nat.lt_or_ge X (tenP us.length) with hlt | hge
  ·have hc:cmpN (tenP us.length) X=1:=by
    rcases cmpN_cases (tenP us.length) X with ⟨h,-⟩ | ⟨h,-⟩ | ⟨-,h⟩
    ·omega
    ·omega
    ·exact h
   rw [hc] at CM
   have FIN:=hide (And.intro hI (And.intro hlt hoe))
   subst hoe hpe
   clear hI hpl hlt hc hk
   generalize (wd 18446744073709551616 (tenP us.length)).length=np at *
   go_wp2_with fail
   refine (unhide CM).mono ?_
   rintro e w3 ⟨rfl,q,rfl⟩
   go_wp2
   go_ret
   exact ⟨_,us,rfl,(unhide FIN).1.own,(unhide FIN).1.all,(unhide FIN).1.but.drewN q,(unhide FIN).1.low,(unhide FIN).2.1⟩
  ·have hc:cmpN (tenP us.length) X≤0:=by
    rcases cmpN_cases (tenP us.length) X with ⟨-,h⟩ | ⟨-,h⟩ | ⟨h,-⟩
    ·omega
    ·omega
    ·omega
   generalize cmpN (tenP us.length) X=r at *
   have hr:decide (r≤0)=true:=by simp;omega
   have hL:us.length≤X:=hI.le
   have h35:=tenP_below X us.length nx (by rw [unhide NX];exact Nat.le_refl _) hge
   have hul:us.length<35088:=Nat.lt_trans Nat.lt_two_pow_self (by omega)
   have HI:=hide hI
   have HR:=hide (And.intro hk (And.intro hL hge))
   obtain ⟨np,hnp⟩:∃ np,np=(wd 18446744073709551616 (tenP us.length)).length:=⟨_,rfl⟩
   have NP:=hide hnp
   rw [← hnp] at hpe hpl
   have hnp0:0<np:=by
    rw [hnp,Nat.pos_iff_ne_zero];intro e;rw [wd_len_zero (by omega)] at e
    have:=tenP_pos us.length
    omega
   have MO:=hide (fun q=>(hI.drewN q).more hge hul _ rfl)
   have MU:=hide (fun W (h:Sl .u64 W u4 (wd 18446744073709551616 (tenP us.length)))=>natMul_any u4 u4 _ _ W h h (by rw [← hnp];omega))
   rw [← tenP_succ] at MU
   clear hI hk hL hge h35 hnp hc
   have SH:=hide hoe
   generalize us.length=L at hoe hul
   subst hoe hpe
   have hmul:wrap64 (2*(np:Int))=2*(np:Int):=by unfold wrap64;omega
   go_wp2_with fail
   refine (unhide CM).mono ?_
   rintro e w3 ⟨rfl,q,rfl⟩
   obtain ⟨v3,w3,hr3,ho3,ha3,hs3,hb3,hl3,hk3⟩:=unhide MO q
   have HR3:=hide hr3
   have AL:=hide (And.intro ho3 (And.intro ha3 (And.intro hs3 (And.intro hb3 hl3))))
   clear hr3 ho3 ha3 hs3 hb3 hl3 hk3 MO
   by_cases hbr:nx<2*np-1
   ·have hbi:(nx:Int)<2*(np:Int)-1:=by omega
    have FIN:Hid (X<tenP (us++[Value.slice pa np pc]).length):=by
     have h1:X < 18446744073709551616^nx:=lt_of_wd_length (by omega) X _ (Nat.le_of_eq (unhide NX))
     have h2:18446744073709551616^(np-1)≤tenP us.length:=by
      rcases Nat.lt_or_ge (tenP us.length) (18446744073709551616^(np-1)) with h | h
      ·have:=wd_length_le (B:=18446744073709551616) (by omega) _ _ h
       rw [← unhide NP] at this
       omega
      ·exact h
     show _<_
     rw [List.length_append,List.length_singleton,tenP_succ]
     refine Nat.lt_of_lt_of_le h1 (Nat.le_trans ?_ (Nat.mul_le_mul h2 h2))
     rw [← Nat.pow_add]
     exact Nat.pow_le_pow_right (by omega) (by omega)
    clear HI MU CM HR NP SH
    go_wp2_with (at_builtin;refine wpList_app rfl _ _ 138 138 rfl _ _ v3 w3 rfl rfl (unhide HR3) ?_)
    go_ret
    exact ⟨v3,_,rfl,(unhide AL).1,(unhide AL).2.1,(unhide AL).2.2.2.1,(unhide AL).2.2.2.2,unhide FIN⟩
   ·have hbi:¬ ((nx:Int)<2*(np:Int)-1):=by omega
    clear CM
    go_wp2_with (at_builtin;refine wpList_app rfl _ _ 138 138 rfl _ _ v3 w3 rfl rfl (unhide HR3) ?_)
    go_wp2_with fail
    refine (unhide MU _ (unhide AL).2.2.1).mono ?_
    rintro e w4 ⟨v4,rfl,hv4,hb4,-⟩
    have R:Hid (∃ us',PowAt w X us' v3 v4 w4∧gk-1+us'.length=X+1):=by
     refine ⟨_,⟨owns_but (unhide AL).1 hb4,fun j u hj=>((unhide AL).2.1 j u hj).but_nil hb4,?_,(unhide AL).2.2.2.1.trans' hb4,(unhide AL).2.2.2.2,.inr (by simp)⟩,?_⟩
     ·rw [List.length_append,List.length_singleton];exact hv4
     ·have:=unhide HR
      rw [List.length_append,List.length_singleton]
      omega
    have GK:Hid (0<gk):=by have:=unhide HR;show _<_;omega
    clear hv4 hb4 AL HI HR MU NP
    go_wp2
    go_roundg (gk-1)
    case measure=>have:=unhide GK;omega
    case rel=>exact unhide R
end Go.Proofs.YtollloafckcogaaGreatDoor

namespace Go.Proofs.YtollloafckcogaaGreatDoor
open Go.RowKit Go.Sort Go.Lib
set_option maxHeartbeats 4000000
set_option maxRecDepth 100000
theorem holds_zero0 (w:World) (T:TypeId) (nd:Nat) (hs:nd≤24):Holds (fun (b:UInt8)=>Value.int .u8 (b.toNat:Int)) (w.alloc (.cells zeros24 T)) w.heap.size 0 (Array.replicate nd (0:UInt8)):=fun j hj=>by
 rw [Array.size_replicate] at hj
 refine ⟨?_,by simp⟩
 rw [World.cell?_alloc_new,zeros24_at _ (by omega),getElem!_pos _ j (by rw [Array.size_replicate];exact hj)]
 simp
theorem formatUint_any (u:Nat) (hu:u<18446744073709551616) (w:World) (htab:Lib.TabIs Tryz.prog w "internal/strconv.uint64pow10" .u64 Lib.pow10Tab) (t:ByteArray) (ht:Hid (t=⟨(Lib.decDigits u).toArray⟩)) :
  Calls Tryz.prog 125 #[.int .u64 u,.int .i64 10] w fun e w'=>e=.returned (.string t)∧But [] w w':=by
 by_cases hs:u<100
 ·have H:=hide htab
  clear htab
  go_enter Tryz.func125,Tryz.ntmps125
  go_wp2_with fail
  refine (Tryz.internal_strconv_small u hs _).mono ?_
  rintro e w1 ⟨rfl,hw⟩
  obtain rfl:=hw.symm
  clear hw
  rw [← unhide ht]
  clear ht
  go_wp2
  go_ret
  exact ⟨rfl,But.refl _ _⟩
 ·have hu1:1≤u:=by omega
  have hnd20:Lib.nDigits u≤20:=by have:=Lib.numDigits_eq u hu1 hu;split at this <;> omega
  have H:=hide htab
  clear htab
  go_enter Tryz.func125,Tryz.ntmps125
  go_wp2_with fail
  refine (Tryz.internal_strconv_numDigits u hu1 hu _ (Lib.tabIs_alloc (unhide H) _)).mono ?_
  rintro e w1 ⟨rfl,hw⟩
  obtain rfl:=hw.symm
  clear hw
  have hH0:=holds_zero0 w 209 (Lib.nDigits u) (by omega)
  have hfmt:=hide (Tryz.internal_strconv_formatBase10 w.heap.size 0 24 u (Array.replicate (Lib.nDigits u) 0) (w.alloc (.cells Lib.zeros24 209)) hH0 (by rw [Array.size_replicate];exact Lib.lt_pow_nDigits u) hu (by rw [Array.size_replicate];omega))
  rw [Array.size_replicate] at hfmt
  have HH:=hide hH0
  clear hH0
  have hnl:=Lib.decDigits_length u
  have HND:=hide hnl
  clear hnl
  generalize hndd:Lib.nDigits u=nd at *
  have HE:=hide hndd
  clear hndd
  have hal:Tryz.prog.arrayLen 209 = 24:=by kernel_rfl
  have hsl:∀ W,(Instr.sliceAt 209 (.pointer (some ⟨w.heap.size,0,none⟩)) none (some (.int .i64 (nd:Int))) none).run Tryz.prog W=.ok (.slice (some ⟨w.heap.size,0,none⟩) nd 24) W:=fun W=>by
   rw [run_sliceAt_array_h W 209 ⟨w.heap.size,0,none⟩ (by kernel_rfl) .i64 (nd:Int) (by omega) (by rw [hal];omega)]
   go_simp
  go_wp2_with fail
  refine (unhide hfmt).mono ?_
  rintro e w1 ⟨rfl,k,v',dk,hw1,hF⟩
  have hF':FmtInv (Lib.nDigits u) u 0 v' dk:=by rw [unhide HE];exact hF
  have hcv:(convert 136 9 (.slice (some ⟨w.heap.size,0,none⟩) nd 24)).run Tryz.prog w1=.ok (.string t) w1:=by
   have h:=run_convert_bytes_back (P:=Tryz.prog) w1 136 9 5 ⟨w.heap.size,0,none⟩ 24 (Lib.decDigits u) Tryz.underlying136 Tryz.underlying5 Tryz.underlying9 (fun j hj=>by
    rw [Lib.row_is_numeral hF' j hj,Lib.add_plain,hw1,World.cell?_drewN]
    exact cell?_putRow (fun (b:UInt8)=>Value.int .u8 (b.toNat:Int)) _ w.heap.size 0 _ dk (unhide HH) (by rw [hF.size,Array.size_replicate]) j (by rw [hF.size];rw [unhide HND] at hj;exact hj))
   rw [unhide HND,← unhide ht] at h
   exact h
  have hB:But [] w w1:=by
   rw [hw1,alloc_eq_grow]
   obtain ⟨os',_,e⟩:=putRow_grow_new (fun (b:UInt8)=>Value.int .u8 (b.toNat:Int)) w #[.cells Lib.zeros24 209] w.heap.size 0 dk (Nat.le_refl _)
   rw [e]
   have hg:But [] w (grow w os'):=⟨rfl,rfl,rfl,by show w.heap.size≤(w.heap++os').size;rw [Array.size_append];omega,fun k hk _=>Array.getElem?_append_left hk⟩
   exact hg.drewN k
  clear hw1 hF hF' HH HND HE hfmt
  go_wp2
  go_ret
  exact ⟨rfl,hB⟩
theorem strconvFormatUint_any (u:Nat) (hu:u<18446744073709551616) (w:World) (htab:Lib.TabIs Tryz.prog w "internal/strconv.uint64pow10" .u64 Lib.pow10Tab) (t:ByteArray) (ht:Hid (t=⟨(Lib.decDigits u).toArray⟩)) :
  Calls Tryz.prog 82 #[.int .u64 u,.int .i64 10] w fun e w'=>e=.returned (.string t)∧But [] w w':=by
 have H:=hide htab
 clear htab
 go_enter Tryz.func82,Tryz.ntmps82
 go_wp2_with fail
 refine (formatUint_any u hu _ (unhide H) t ht).mono ?_
 rintro e w1 ⟨rfl,hb⟩
 go_wp2
 go_ret
 exact ⟨rfl,hb⟩
end Go.Proofs.YtollloafckcogaaGreatDoor

namespace Go.Proofs.YtollloafckcogaaGreatDoor
open Go.RowKit
theorem TabIs.but {w w':World} (h:Lib.TabIs Tryz.prog w "internal/strconv.uint64pow10" .u64 Lib.pow10Tab) (hb:But [] w w'):Lib.TabIs Tryz.prog w' "internal/strconv.uint64pow10" .u64 Lib.pow10Tab :=
 Go.Lib.tabBelow_of_tabIs h w' hb.below
end Go.Proofs.YtollloafckcogaaGreatDoor

namespace Go.Proofs.YtollloafckcogaaGreatDoor
open Go.RowKit
set_option maxHeartbeats 8000000
set_option maxRecDepth 100000
structure Powers (w:World) (vp:Value) (us:List Value):Prop where
 form:∃ a c,vp=.slice a us.length c∧us.length≤c∧∀ j u,us[j]? = some u→∃ g o,a=some ⟨g,o,none⟩∧g<w.heap.size∧w.cell? ⟨g,o+j,none⟩=some u
 all:∀ j u,us[j]? = some u→Sl .u64 w u (wd 18446744073709551616 (tenP j))
theorem powers_of {w:World} {base:Nat} {vp:Value} {us:List Value} (h:w.ownsRow base 82 1 vp us.length us) (ha:∀ j u,us[j]? = some u→Sl .u64 w u (wd 18446744073709551616 (tenP j))):Powers w vp us:=by
 refine ⟨?_,ha⟩
 rcases h.2 with ⟨rfl,h0⟩ | ⟨g,cap,cur,rfl,h2,h3,h4,-⟩
 ·exact ⟨none,0,by rw [h0],by omega,fun j u hj=>by have:=(List.getElem?_eq_some_iff.1 hj).1;omega⟩
 ·refine ⟨_,cap,rfl,h4,fun j u hj=>⟨g,0,rfl,(h.lt g rfl).2,?_⟩⟩
  have:=h.cells (g:=g) rfl j u hj
  rw [addr_add] at this
  exact this
def LongOK (L:Nat):Prop:=∀ (base:Nat) (w0:World) (vp:Value) (us:List Value) (vo:Value) (ods:List UInt8) (v:Value) (X Wd:Nat) (w:World),base=w0.heap.size→Powers w0 vp us→us.length=L→Below base w0 w →
 Sl .u64 w v (wd 18446744073709551616 X)→X<tenP L→(Wd=0∧0<X∨Wd=608*2^L)→(wd 18446744073709551616 X).length≤1000000→ods.length+(rdig X).length+2*(608*2^L)<1073741000→w.ownsRow base 5 1 vo ods.length (ods.map u8v)→(vo=.slice none 0 0∨0<ods.length)→(∀ j u,us[j]? = some u→Sl .u64 w u (wd 18446744073709551616 (tenP j))) →
 Calls Tryz.prog 83 #[vo,v,.int .i64 (Wd:Int),vp] w fun e w'=>∃ v',e=.returned v'∧w'.ownsRow base 5 1 v' (ods++(wdig Wd X).reverse).length ((ods++(wdig Wd X).reverse).map u8v)∧Below base w w'∧Keep64 w w'
theorem appendLong_zero:LongOK 0:=by
 intro base w0 vp us vo ods v X Wd w hbase hP hL hB hv hX hW hl hd ho hn _
 have hbs:base≤w.heap.size:=by rw [hbase];exact hB.size
 have h608:608*2^0=608:=by decide
 rw [h608] at hW hd
 have AS:=hide (appendShort_any base vo ods v X Wd w hv (by rcases hW with h | h <;> omega) (by omega) (by rcases hW with h | h <;> omega) ho hn hbs)
 obtain ⟨a,c,e,-,-⟩:=hP.form
 rw [hL] at e
 subst e
 obtain ⟨xa,xc,rfl,-,-⟩:=hv
 obtain ⟨oa,oc,rfl⟩:=owns_shape ho
 clear hX hW hP hL ho hn hB
 generalize (wd 18446744073709551616 X).length=n at *
 generalize ods.length=no at *
 go_enter Tryz.func83,Tryz.ntmps83
 go_wp2_with fail
 refine (unhide AS).mono ?_
 rintro e w1 ⟨v1,rfl,ho,hb,hk⟩
 have HO:=hide (And.intro ho (And.intro hb hk))
 clear ho hb hk
 go_wp2
 go_ret
 exact ⟨v1,rfl,(unhide HO).1,(unhide HO).2.1,(unhide HO).2.2⟩
theorem tenP_len (L:Nat):(wd 18446744073709551616 (tenP L)).length≤38*2^L:=by
 refine wd_length_le (by omega) _ _ ?_
 have e:(18446744073709551616:Nat)^(38*2^L)=16^(608*2^L):=by
  rw [show (18446744073709551616:Nat)=16^16 from by decide,← Nat.pow_mul,← Nat.mul_assoc]
 rw [e]
 exact Nat.pow_lt_pow_left (by omega) (by have:0<2^L:=Nat.pow_pos (by omega);omega)
theorem below_cell {n:Nat} {w w':World} (h:Below n w w') {g i:Nat} {u:Value} (hg:g<n) (hc:w.cell? ⟨g,i,none⟩=some u):w'.cell? ⟨g,i,none⟩=some u:=(World.cell?_of_block (w:=w) (h.block g hg)).trans hc
theorem Powers.take {w:World} {g o c L:Nat} {us:List Value} (h:Powers w (.slice (some ⟨g,o,none⟩) us.length c) us) (hL:L≤us.length):Powers w (.slice (some ⟨g,o,none⟩) L c) (us.take L):=by
 have hl:(us.take L).length=L:=by rw [List.length_take];omega
 have hsub:∀ j u,(us.take L)[j]? = some u→us[j]? = some u:=fun j u hj=>by
  have hlt:j<L:=by have:=(List.getElem?_eq_some_iff.1 hj).1;omega
  rw [List.getElem?_take_of_lt hlt] at hj
  exact hj
 obtain ⟨a,c',e,h1,h2⟩:=h.form
 simp only [Value.slice.injEq] at e
 obtain ⟨rfl,-,rfl⟩:=e
 exact ⟨⟨_,c,by rw [hl],by omega,fun j u hj=>h2 j u (hsub j u hj)⟩,fun j u hj=>h.all j u (hsub j u hj)⟩
theorem wdig_halves (L X Wd:Nat) (hX:X<tenP (L+1)) (hW:(Wd=0∧0<X)∨Wd=608*2^(L+1)) (hne:¬ (X/tenP L=0∧Wd=0)) :
  (wdig Wd X).reverse=(wdig (Wd-608*2^L) (X/tenP L)).reverse++(wdig (608*2^L) (X%tenP L)).reverse∧((Wd-608*2^L=0∧0<X/tenP L)∨Wd-608*2^L=608*2^L):=by
 have hp:=tenP_pos L
 have e2:608*2^(L+1)=608*2^L+608*2^L:=by rw [Nat.pow_succ];omega
 rcases hW with ⟨rfl,h0⟩ | h
 ·have h1:0<X/tenP L:=by
   rcases Nat.eq_zero_or_pos (X/tenP L) with h | h
   ·exact absurd ⟨h,rfl⟩ hne
   ·exact h
  have h2:tenP L≤X:=by
   rcases Nat.lt_or_ge X (tenP L) with h | h
   ·rw [Nat.div_eq_of_lt h] at h1;omega
   ·exact h
  rw [Nat.zero_sub]
  refine ⟨?_,.inl ⟨rfl,h1⟩⟩
  rw [wdig_long (608*2^L) X h2,List.reverse_append];rfl
 ·rw [h,e2,Nat.add_sub_cancel]
  refine ⟨?_,.inr rfl⟩
  rw [wdig_wide (608*2^L) X (by rw [← e2];exact hX),List.reverse_append];rfl
theorem appendLong_succ (L:Nat) (IH:LongOK L) (hL20:L<20):LongOK (L+1):=by
 intro base w0 vp us vo ods v X Wd w hbase hP hL hB hv hX hW hl hd ho hn hall
 have hp:=tenP_pos L
 have e2:608*2^(L+1)=608*2^L+608*2^L:=by rw [Nat.pow_succ];omega
 have hh:X/tenP L<tenP L:=by rw [Nat.div_lt_iff_lt_mul hp,← tenP_succ];exact hX
 have hlo:X%tenP L<tenP L:=Nat.mod_lt _ hp
 obtain ⟨u,hu⟩:∃ u,us[L]? = some u:=⟨us[L],List.getElem?_eq_getElem (by omega)⟩
 obtain ⟨a,c,rfl,hc1,hcell⟩:=hP.form
 obtain ⟨g,o,rfl,hg,hcu⟩:=hcell L u hu
 rw [hbase.symm] at hg
 have cu:=below_cell hB hg hcu
 have hPT:Powers w0 (.slice (some ⟨g,o,none⟩) L c) (us.take L):=hP.take (by omega)
 have hTL:(us.take L).length=L:=by rw [List.length_take];omega
 have hsub:∀ j u,(us.take L)[j]? = some u→us[j]? = some u:=fun j u hj=>by
  have hlt:j<L:=by have:=(List.getElem?_eq_some_iff.1 hj).1;omega
  rw [List.getElem?_take_of_lt hlt] at hj
  exact hj
 obtain ⟨D,hD⟩:∃ D,D=608*2^L:=⟨_,rfl⟩
 have rh:(rdig (X/tenP L)).length≤D:=rdig_length _ _ (by rw [hD];exact hh)
 have rl:(rdig (X%tenP L)).length≤D:=rdig_length _ _ (by rw [hD];exact hlo)
 have lh:(wd 18446744073709551616 (X/tenP L)).length≤1000000:=Nat.le_trans (wd_len_mono (Nat.div_le_self _ _)) hl
 have ll:(wd 18446744073709551616 (X%tenP L)).length≤1000000:=Nat.le_trans (wd_len_mono (Nat.mod_le _ _)) hl
 have lu:=hall L u hu
 have QR:=hide (natQuoRem_any v u X (tenP L) w hv lu hp (by omega) (by
  have:=tenP_len L
  have h19:2^L≤2^19:=Nat.pow_le_pow_right (by omega) (by omega)
  omega) (Short.of _ _ hl))
 have hDB:D<1073741000:=by rw [hD];omega
 have hbs:base≤w.heap.size:=by rw [hbase];exact hB.size
 have HDW:Hid (wrap64 (608*2^L)=(D:Int)):=by
  have e:(608:Int)*2^L=(D:Int):=by rw [hD];simp
  show _=_
  rw [e];unfold wrap64;omega
 have hLc:L<c:=by omega
 have i1:(0:Int)≤(L:Int):=by omega
 have i2:(L:Int)≤(c:Int):=by omega
 have i3:(L:Int)≤(L:Int)+1:=by omega
 have HALL:=hide hall
 have HO:=hide (And.intro ho hn)
 have HB:=hide hB
 have IHA:=hide (fun ods' vo' v' X' W' W (h1:Below base w0 W) (h2:Sl .u64 W v' (wd 18446744073709551616 X')) (h3:X' < tenP L) (h4:W'=0∧0<X'∨W'=608*2^L) (h5:(wd 18446744073709551616 X').length≤1000000) h6 h7 h8 (h9:∀ j u,us[j]? = some u→Sl .u64 W u (wd 18446744073709551616 (tenP j)))=>IH base w0 _ _ vo' ods' v' X' W' W hbase hPT hTL h1 h2 h3 h4 h5 h6 h7 h8 (fun j u hj=>h9 j u (hsub j u hj)))
 have HX:=hide hX
 have HW:=hide hW
 have HD2:=hide (And.intro hD (And.intro rh (And.intro rl (And.intro lh (And.intro ll (And.intro hh hlo))))))
 clear hDB
 have HDD:Hid (ods.length+4*D<1073741000):=by show _<_;rw [hD];omega
 obtain ⟨xa,xc,rfl,-,-⟩:=hv
 obtain ⟨oa,oc,rfl⟩:=owns_shape ho
 rw [hL]
 clear hX hW hP hL ho hn hB IH hPT hTL hsub hall hcell hcu hu hp hc1 hbase hd rh rl lh ll hh hlo e2 hD
 generalize (wd 18446744073709551616 X).length=n at *
 generalize hno:ods.length=no at *
 go_enter Tryz.func83,Tryz.ntmps83
 go_wp2_with fail
 refine (unhide QR).mono ?_
 rw [unhide HDW]
 rintro e1 w1 ⟨v1,v2,rfl,hv1,hv2,hb1,-⟩
 have HV1:=hide hv1
 have HV2:=hide hv2
 have B1:=hide hb1
 have HB1:=hide (below_trans (unhide HB) (hb1.below_of hbs))
 obtain ⟨ha,hc,rfl,-,-⟩:=hv1
 clear hv2 hb1 QR
 by_cases h0:X/tenP L=0∧Wd=0
 ·obtain ⟨hq0,hw0⟩:=h0
  have hXL:X%tenP L=X:=by
   have:=Nat.div_add_mod X (tenP L)
   rw [hq0,Nat.mul_zero,Nat.zero_add] at this
   exact this
  have hX0:0<X:=by
   have hDp:0<608*2^(L+1):=Nat.mul_pos (by omega) (Nat.pow_pos (by omega))
   rcases unhide HW with h | h
   ·exact h.2
   ·omega
  have HXL:=hide hXL
  have A:=hide (unhide IHA ods (.slice oa no oc) v2 (X%tenP L) 0 w1 (unhide HB1) (unhide HV2) (unhide HD2).2.2.2.2.2.2 (.inl ⟨rfl,by rw [hXL];exact hX0⟩) (unhide HD2).2.2.2.2.1 (by have h1:=(unhide HD2).2.2.1;have h2:=(unhide HD2).1;have h3:=unhide HDD;omega) (by rw [hno];exact owns_but (unhide HO).1 (unhide B1)) (by rw [hno];exact (unhide HO).2) (fun j u hj=>(unhide HALL j u hj).but_nil (unhide B1)))
  rw [hq0,wd_zero,List.length_nil]
  subst hw0
  clear hq0 hXL hX0 IHA HV1 HD2 HX HW HALL HO
  go_wp2_with fail
  refine (unhide A).mono ?_
  rintro e2 w2 ⟨v3,rfl,ho2,hb2,hk2⟩
  have FIN:=hide (And.intro ho2 (And.intro (below_trans ((unhide B1).below_of hbs) hb2) ((Keep64.of_but (unhide B1)).trans hk2)))
  rw [unhide HXL] at FIN
  clear ho2 hb2 hk2 A
  go_wp2
  go_ret
  exact ⟨v3,rfl,(unhide FIN).1,(unhide FIN).2.1,(unhide FIN).2.2⟩
 ·obtain ⟨f1,f2⟩:=wdig_halves L X Wd (unhide HX) (unhide HW) h0
  rw [← (unhide HD2).1] at f1 f2
  obtain ⟨W',hW'⟩:∃ W',W'=Wd-D:=⟨_,rfl⟩
  rw [← hW'] at f1 f2
  have hmax:max ((Wd:Int)-(D:Int)) 0=(W':Int):=by omega
  have hWl:W'≤D:=by omega
  have hWdl:Wd≤2*D:=by
   have e2:608*2^(L+1)=608*2^L+608*2^L:=by rw [Nat.pow_succ];omega
   have:=(unhide HD2).1
   rcases unhide HW with h | h <;> omega
  have A:=hide (unhide IHA ods (.slice oa no oc) (.slice ha (wd 18446744073709551616 (X/tenP L)).length hc) (X/tenP L) W' w1 (unhide HB1) (unhide HV1) (unhide HD2).2.2.2.2.2.1 (by rw [← (unhide HD2).1];exact f2) (unhide HD2).2.2.2.1 (by have h1:=(unhide HD2).2.1;have h2:=(unhide HD2).1;have h3:=unhide HDD;omega) (by rw [hno];exact owns_but (unhide HO).1 (unhide B1)) (by rw [hno];exact (unhide HO).2) (fun j u hj=>(unhide HALL j u hj).but_nil (unhide B1)))
  have F1:=hide f1
  have WL:Hid (0<(wdig W' (X/tenP L)).length∧(wdig W' (X/tenP L)).length≤D):=by
   refine ⟨wdig_pos _ _ (by have hDp:0<608*2^L:=Nat.mul_pos (by omega) (Nat.pow_pos (by omega));have:=(unhide HD2).1;rcases f2 with h | h <;> omega),?_⟩
   rw [wdig_length]
   have:=(unhide HD2).2.1
   omega
  have hh0:((((wd 18446744073709551616 (X/tenP L)).length:Int)==0)=true→((Wd:Int)==0)=false):=fun h=>by
   have h1:(wd 18446744073709551616 (X/tenP L)).length=0:=by have:=beq_iff_eq.1 h;omega
   rw [wd_len_zero (by omega)] at h1
   rw [beq_eq_false_iff_ne]
   intro h2
   exact h0 ⟨h1,by omega⟩
  clear f1 f2 h0 hW'
  generalize (wd 18446744073709551616 (X/tenP L)).length=nh at *
  have hsub64:wrap64 ((Wd:Int)-(D:Int))=(Wd:Int)-(D:Int):=by have:=unhide HDD;unfold wrap64;omega
  by_cases hn0:nh=0
  ·have hne:((Wd:Int)==0)=false:=hh0 (by simp [hn0])
   subst hn0
   clear hh0
   go_wp2_with fail
   refine (unhide A).mono ?_
   rintro e2 w2 ⟨v3,rfl,ho2,hb2,hk2⟩
   have HB2:=hide (below_trans (unhide HB1) hb2)
   have HV22:=hide (hk2 _ _ (unhide HV2))
   obtain ⟨oa2,oc2,rfl⟩:=owns_shape ho2
   have hol:(ods++(wdig W' (X/tenP L)).reverse).length=no+(wdig W' (X/tenP L)).length:=by rw [List.length_append,List.length_reverse,hno]
   have A2:=hide (unhide IHA (ods++(wdig W' (X/tenP L)).reverse) (.slice oa2 (ods++(wdig W' (X/tenP L)).reverse).length oc2) v2 (X%tenP L) D w2 (unhide HB2) (unhide HV22) (unhide HD2).2.2.2.2.2.2 (.inr (unhide HD2).1) (unhide HD2).2.2.2.2.1 (by have h1:=(unhide HD2).2.2.1;have h2:=(unhide HD2).1;have h3:=unhide HDD;have h4:=(unhide WL).2;omega) ho2 (.inr (by have h4:=(unhide WL).1;omega)) (fun j u hj=>hk2 _ _ ((unhide HALL j u hj).but_nil (unhide B1))))
   have K2:=hide (And.intro hb2 hk2)
   clear ho2 hb2 hk2 A hol IHA HALL HV22 HB2
   generalize (ods++(wdig W' (X/tenP L)).reverse).length=no2 at *
   go_wp2_with fail
   refine (unhide A2).mono ?_
   rintro e3 w3 ⟨v4,rfl,ho3,hb3,hk3⟩
   have FIN:=hide (And.intro ho3 (And.intro (below_trans ((unhide B1).below_of hbs) (below_trans (unhide K2).1 hb3)) (((Keep64.of_but (unhide B1)).trans (unhide K2).2).trans hk3)))
   rw [List.append_assoc,← unhide F1] at FIN
   clear ho3 hb3 hk3 A2
   go_wp2
   go_ret
   exact ⟨v4,rfl,(unhide FIN).1,(unhide FIN).2.1,(unhide FIN).2.2⟩
  ·have hne:((nh:Int)==0)=false:=beq_eq_false_iff_ne.2 (by omega)
   clear hh0
   go_wp2_with fail
   refine (unhide A).mono ?_
   rintro e2 w2 ⟨v3,rfl,ho2,hb2,hk2⟩
   have HB2:=hide (below_trans (unhide HB1) hb2)
   have HV22:=hide (hk2 _ _ (unhide HV2))
   obtain ⟨oa2,oc2,rfl⟩:=owns_shape ho2
   have hol:(ods++(wdig W' (X/tenP L)).reverse).length=no+(wdig W' (X/tenP L)).length:=by rw [List.length_append,List.length_reverse,hno]
   have A2:=hide (unhide IHA (ods++(wdig W' (X/tenP L)).reverse) (.slice oa2 (ods++(wdig W' (X/tenP L)).reverse).length oc2) v2 (X%tenP L) D w2 (unhide HB2) (unhide HV22) (unhide HD2).2.2.2.2.2.2 (.inr (unhide HD2).1) (unhide HD2).2.2.2.2.1 (by have h1:=(unhide HD2).2.2.1;have h2:=(unhide HD2).1;have h3:=unhide HDD;have h4:=(unhide WL).2;omega) ho2 (.inr (by have h4:=(unhide WL).1;omega)) (fun j u hj=>hk2 _ _ ((unhide HALL j u hj).but_nil (unhide B1))))
   have K2:=hide (And.intro hb2 hk2)
   clear ho2 hb2 hk2 A hol IHA HALL HV22 HB2
   generalize (ods++(wdig W' (X/tenP L)).reverse).length=no2 at *
   go_wp2_with fail
   refine (unhide A2).mono ?_
   rintro e3 w3 ⟨v4,rfl,ho3,hb3,hk3⟩
   have FIN:=hide (And.intro ho3 (And.intro (below_trans ((unhide B1).below_of hbs) (below_trans (unhide K2).1 hb3)) (((Keep64.of_but (unhide B1)).trans (unhide K2).2).trans hk3)))
   rw [List.append_assoc,← unhide F1] at FIN
   clear ho3 hb3 hk3 A2
   go_wp2
   go_ret
   exact ⟨v4,rfl,(unhide FIN).1,(unhide FIN).2.1,(unhide FIN).2.2⟩
theorem appendLong_all (L:Nat) (h:L≤20):LongOK L:=by
 induction L with
 | zero=>exact appendLong_zero
 | succ L ih=>exact appendLong_succ L (ih (by omega)) (by omega)
theorem dig_len (X n:Nat) (h:(wd 18446744073709551616 X).length≤n):(rdig X).length≤20*n:=by
 refine rdig_length X _ (Nat.lt_of_lt_of_le (lt_of_wd_length (B:=18446744073709551616) (by omega) X n h) ?_)
 rw [Nat.pow_mul]
 exact Nat.pow_le_pow_left (by decide) _
theorem natText_all (v:Value) (X:Nat) (w:World) (hv:Sl .u64 w v (wd 18446744073709551616 X)) (hl:(wd 18446744073709551616 X).length≤1000000) (htab:Lib.TabIs Tryz.prog w "internal/strconv.uint64pow10" .u64 Lib.pow10Tab) (t:ByteArray) (ht:Hid (t=⟨(Lib.decDigits X).toArray⟩)) :
  Calls Tryz.prog 37 #[v] w fun e w'=>e=.returned (.string t)∧But [] w w':=by
 by_cases hu:X < 18446744073709551616
 ·have H:=hide htab
  have HW:=hide (natWord_any v X hu w hv)
  obtain ⟨xa,xc,rfl,-,-⟩:=hv
  clear htab
  generalize (wd 18446744073709551616 X).length=n at *
  go_enter Tryz.func37,Tryz.ntmps37
  go_wp2_with fail
  refine (unhide HW).mono ?_
  rintro e w1 ⟨rfl,hw⟩
  obtain rfl:=hw.symm
  clear hw
  go_wp2_with fail
  refine (strconvFormatUint_any X hu _ (unhide H) t ht).mono ?_
  rintro e w1 ⟨rfl,hb⟩
  go_wp2
  go_ret
  exact ⟨rfl,hb⟩
 ·have hp:0<X:=by omega
  have HW:=hide (natWord_long v X (by omega) w hv (by omega))
  have PF:=hide (powersFor_any v X w hv hl)
  have HV:=hide hv
  have hdl:=dig_len X _ (Nat.le_refl _)
  have AL:Hid (∀ vo us W,W.ownsRow w.heap.size 82 1 vo us.length us→(∀ j u,us[j]? = some u→Sl .u64 W u (wd 18446744073709551616 (tenP j)))→But [] w W→(∀ j,j<us.length→tenP j≤X)→X<tenP us.length →
   Calls Tryz.prog 83 #[.slice none 0 0,v,.int .i64 0,vo] W fun e w'=>∃ v',e=.returned v'∧w'.ownsRow W.heap.size 5 1 v' (rdig X).reverse.length ((rdig X).reverse.map u8v)∧But [] W w'):=fun vo us W h1 h2 h3 h4 h5=>by
   have hL:1824*2^us.length<128*1000000+3648:=by
    rcases Nat.eq_zero_or_pos us.length with h0 | h0
    ·rw [h0];omega
    ·obtain ⟨j,hj⟩:∃ j,us.length=j+1:=⟨us.length-1,by omega⟩
     have:=tenP_below X j 1000000 hl (h4 j (by omega))
     rw [hj,Nat.pow_succ]
     omega
   have hL20:us.length≤20:=by
    rcases Nat.lt_or_ge 20 us.length with h | h
    ·have:2^21≤2^us.length:=Nat.pow_le_pow_right (by omega) h
     omega
    ·exact h
   have:=appendLong_all us.length hL20 W.heap.size W vo us (.slice none 0 0) [] v X 0 W rfl (powers_of h1 h2) rfl (But.refl [] W).below (hv.but_nil h3) h5 (.inl ⟨rfl,hp⟩) hl (by simp only [List.length_nil];omega) (World.ownsRow_nil _ _ _ _) (.inl rfl) h2
   rw [wdig_zero] at this
   refine this.mono fun e w' ⟨v',e1,e2,e3,_⟩=>⟨v',e1,by simpa using e2,But.of_below e3⟩
  have hrl:0<(rdig X).reverse.length:=by rw [List.length_reverse,rdig_pos hp];simp
  have HRR:=hide (rdig_rev X hp)
  have hrb:(rdig X).reverse.length≤20000000:=by rw [List.length_reverse];omega
  obtain ⟨xa,xc,rfl,-,-⟩:=hv
  clear htab hu hl hdl
  generalize (wd 18446744073709551616 X).length=n at *
  go_enter Tryz.func37,Tryz.ntmps37
  go_wp2_with fail
  refine (unhide HW).mono ?_
  rintro e w1 ⟨rfl,hw⟩
  obtain rfl:=hw.symm
  clear hw
  go_wp2_with fail
  refine (unhide PF).mono ?_
  rintro e w1 ⟨vo,us,rfl,h1,h2,h3,h4,h5⟩
  have B1:=hide h3
  have A1:=hide (unhide AL vo us w1 h1 h2 h3 h4 h5)
  clear h1 h2 h3 h4 h5 AL PF
  go_wp2_with fail
  refine (unhide A1).mono ?_
  rintro e w2 ⟨v2,rfl,ho2,hb2⟩
  have hB2:But [] w w2:=(unhide B1).trans' hb2
  obtain ⟨g,cg,rfl,hg,hcg,hrow⟩:=owns_row ho2 hrl
  have hcv:=run_convert_bytes_back (P:=Tryz.prog) w2 136 9 5 ⟨g,0,none⟩ cg (rdig X).reverse Tryz.underlying136 Tryz.underlying5 Tryz.underlying9 (fun j hj=>row_news hrow j _ (by rw [List.getElem?_map,List.getElem?_eq_getElem hj];rfl))
  rw [unhide HRR,← unhide ht] at hcv
  rw [unhide HRR]
  have HB2:=hide hB2
  clear ho2 hb2 hrow hB2 hrl
  generalize (Lib.decDigits X).length=m at *
  go_wp2
  go_ret
  exact ⟨rfl,unhide HB2⟩
end Go.Proofs.YtollloafckcogaaGreatDoor
