/- A whole number is divided by another one: what the callers ask for, as the Go text of package nat does it. -/
import Derived.Deep.RegionHeld
import Derived.Laws.OwnMore
import Derived.Test.YtloojmaamaambaaGreatDoorKBN18
import Derived.Test.YtloojmaamaambaaGreatDoorKBN31
import Derived.Test.YtloojmaamaambaaGreatDoorKBPh
namespace Go.Proofs.YtloojmaamaambaaGreatDoor
open Go.RowKit

set_option maxHeartbeats 4000000 in
set_option maxRecDepth 100000 in
theorem natQuoRem_of (vx vy : Value) (X Y : Nat) (w : World) (hx : Sl .u64 w vx (wd 18446744073709551616 X)) (hy : Sl .u64 w vy (wd 18446744073709551616 Y)) (hY : 0 < Y) (hl : (wd 18446744073709551616 X).length < 134217728) (hly : (wd 18446744073709551616 Y).length < 134217728)
  (hD : 2 ≤ (wd 18446744073709551616 Y).length→Y ≤ X→DivideW (X * 2 ^ lz (topW Y)) (Y * 2 ^ lz (topW Y))) :
  Calls Tryz.prog 134 #[vx,vy] w fun e w' => ∃ v1 v2,e = .returned (.tuple #[v1,v2])∧Sl .u64 w' v1 (wd 18446744073709551616 (X / Y))∧Sl .u64 w' v2 (wd 18446744073709551616 (X % Y))∧But [] w w'∧Heir w vx w' v2:=by
 have hcmp:=natCmp_any vx vy X Y w hx hy (by omega) (by omega)
 rcases Nat.lt_or_ge X Y with hlt | hge
 ·rw [cmpN_lt hlt] at hcmp
  rw [Nat.div_eq_of_lt hlt,Nat.mod_eq_of_lt hlt,wd_zero]
  have HC:=hide hcmp
  have HX:=hide hx
  obtain ⟨a1,c1,rfl,-,-⟩:=hx
  obtain ⟨a2,c2,rfl,-,-⟩:=hy
  clear hcmp hD
  generalize (wd 18446744073709551616 X).length = nx at *
  generalize (wd 18446744073709551616 Y).length = ny at *
  go_enter Tryz.func134,Tryz.ntmps134
  go_wp2_with fail
  refine (unhide HC).mono ?_
  rintro e w1 ⟨rfl,q,rfl⟩
  go_wp2
  go_ret2
  exact ⟨_,_,rfl,Sl.nil _ _,unhide HX,(But.refl _ _).drewN q,Heir.self _ _ _⟩
 ·have hc0:=cmpN_ge hge
  generalize cmpN X Y = r at *
  have hr : decide (r < 0) = false:=by simp; omega
  have HC:=hide hcmp
  have HX:=hide hx
  have HY:=hide hy
  rcases hy.open with ⟨e,-⟩ | ⟨hp,b2,o2,c2,rfl,hc2,-,hcell⟩
  ·rw [wd_nil_iff (by omega)] at e; omega
  obtain ⟨a1,c1,rfl,-,-⟩:=hx
  by_cases h1 : (wd 18446744073709551616 Y).length = 1
  ·have hYB : Y < 18446744073709551616:=by
    have:=lt_of_wd_length (B:=18446744073709551616) (by omega) Y 1 (by omega)
    rw [Nat.pow_one] at this
    exact this
   have hc:=hcell 0 (by omega)
   rw [Nat.add_zero,wd_word Y hY hYB] at hc
   simp only [List.getElem?_cons_zero,Option.getD_some] at hc
   have HB:=hide (fun (W : World) (h : Sl .u64 W (.slice a1 (wd 18446744073709551616 X).length c1) (wd 18446744073709551616 X)) => byWord_any _ X Y W h (by omega) hY hYB)
   have hmod : X % Y < 18446744073709551616:=Nat.lt_trans (Nat.mod_lt _ hY) hYB
   clear hcmp hD hcell hy
   generalize hnx : (wd 18446744073709551616 X).length = nx at *
   generalize hny : (wd 18446744073709551616 Y).length = ny at *
   clear hnx hny
   have e1 : ((ny : Int) == 1) = true:=beq_iff_eq.2 (by omega)
   have hp1 : (0 : Int) < (ny : Int):=by omega
   have HE:=hide h1
   clear h1
   go_enter Tryz.func134,Tryz.ntmps134
   go_wp2_with fail
   refine (unhide HC).mono ?_
   rintro e w1 ⟨rfl,q,rfl⟩
   go_wp2_with fail
   refine (unhide HB _ (by exact unhide HX)).mono ?_
   rintro e w2 ⟨v1,rfl,hv1,hb2⟩
   have B2 : Hid (But [] w w2):=((But.refl [] _).drewN q).trans' hb2
   have HV1:=hide hv1
   clear hb2 hv1
   go_wp2_with fail
   refine (natOf_any (X % Y) hmod _).mono ?_
   rintro e w3 ⟨v2,rfl,hv2,hb3,ho3⟩
   have ALL:=hide (And.intro ((unhide HV1).but_nil hb3) (And.intro hv2 (And.intro ((unhide B2).trans' hb3) (ho3.mono (unhide B2).size))))
   clear hv2 hb3 ho3
   go_wp2
   go_ret2
   exact ⟨v1,v2,rfl,(unhide ALL).1,(unhide ALL).2.1,(unhide ALL).2.2.1,Heir.of_own (unhide ALL).2.2.2⟩
  ·obtain ⟨t1,t2,-,-⟩:=top_pos Y hY
   have hs:=(lz_facts (topW Y) t1 t2).1
   have hDO:=hD (by omega) hge
   have hct:=hcell ((wd 18446744073709551616 Y).length - 1) (by omega)
   have LZ:=hide (fun W => lead_any (topW Y) t1 t2 W)
   have hnl:=norm_len Y hY
   have hsl:=shl_len X (lz (topW Y)) hs
   rw [show (wd 18446744073709551616 Y)[(wd 18446744073709551616 Y).length - 1]?.getD 0 = topW Y from rfl] at hct
   have HL1:=hide (fun (W : World) (h : Sl .u64 W (.slice a1 (wd 18446744073709551616 X).length c1) (wd 18446744073709551616 X)) => natLeft_any _ X (lz (topW Y)) W h (by omega) hs)
   have HL2:=hide (fun (W : World) (h : Sl .u64 W (.slice (some ⟨b2,o2,none⟩) (wd 18446744073709551616 Y).length c2) (wd 18446744073709551616 Y)) => natLeft_any _ Y (lz (topW Y)) W h (by omega) hs)
   have hz : 0 < 2 ^ lz (topW Y):=Nat.pow_pos (by omega)
   have HDO:=hide hDO
   unfold DivideW at HDO
   rw [Nat.mul_div_mul_right _ _ hz,Nat.mul_mod_mul_right] at HDO
   have hrl : (wd 18446744073709551616 (X % Y * 2 ^ lz (topW Y))).length < 1073741824:=by
    have:=shl_len (X % Y) (lz (topW Y)) hs
    have h3:=wd_len_mono (Nat.mod_le X Y)
    omega
   have HRR:=hide (fun (v : Value) (W : World) (h : Sl .u64 W v (wd 18446744073709551616 (X % Y * 2 ^ lz (topW Y)))) => natRight_any v (X % Y * 2 ^ lz (topW Y)) (lz (topW Y)) W h hrl hs)
   rw [Nat.mul_div_cancel _ hz] at HRR
   clear hcmp hD hDO hcell hy hnl hsl hz
   generalize lz (topW Y) = s at *
   generalize topW Y = t at *
   generalize hnx : (wd 18446744073709551616 X).length = nx at *
   generalize hny : (wd 18446744073709551616 Y).length = ny at *
   clear hnx hny
   have e1 : ((ny : Int) == 1) = false:=beq_eq_false_iff_ne.2 (by omega)
   go_enter Tryz.func134,Tryz.ntmps134
   go_wp2_with fail
   refine (unhide HC).mono ?_
   rintro e w1 ⟨rfl,q,rfl⟩
   go_wp2_with fail
   refine (unhide LZ _).mono ?_
   rintro e w1 ⟨rfl,hw⟩
   obtain rfl:=hw.symm
   clear hw
   go_wp2_with fail
   refine (unhide HL1 _ (by exact unhide HX)).mono ?_
   rintro e w2 ⟨v1,rfl,hv1,hb2,hp2⟩
   have B2 : Hid (But [] w w2):=((But.refl [] _).drewN q).trans' hb2
   have HE1 : Hid (Heir w (.slice a1 nx c1) w2 v1):=by
    rcases hp2 with rfl | ho
    ·exact Heir.self _ _ _
    ·exact (Heir.of_own ho).pre (Nat.le_refl _)
   have HV1:=hide hv1
   clear hb2 hv1 hp2
   go_wp2_with fail
   refine (unhide HL2 _ ((unhide HY).but_nil (unhide B2))).mono ?_
   rintro e w3 ⟨v2,rfl,hv2,hb3,-⟩
   have B3 : Hid (But [] w w3):=(unhide B2).trans' hb3
   have HV2:=hide hv2
   have HV1':=hide ((unhide HV1).but_nil hb3)
   have HE1':=hide ((unhide HE1).but (unhide HV1) hb3)
   clear hv2 hb3 HV1 HE1
   go_wp2_with fail
   refine (unhide HDO v1 v2 _ (unhide HV1') (unhide HV2)).mono ?_
   rintro e w4 ⟨v3,v4,rfl,hv3,hv4,hb4,he4⟩
   have B4 : Hid (But [] w w4):=(unhide B3).trans' hb4
   have H3:=hide hv3
   have H4:=hide hv4
   have HE4:=hide ((unhide HE1').trans (unhide HV1') hb4 (unhide B3).size he4)
   clear hv3 hv4 hb4 he4 HE1'
   go_wp2_with fail
   refine (unhide HRR v4 _ (unhide H4)).mono ?_
   rintro e w5 ⟨v5,rfl,hv5,hb5,hp5⟩
   have HE5 : Heir w (.slice a1 nx c1) w5 v5:=by
    rcases hp5 with rfl | ho
    ·exact (unhide HE4).but (unhide H4) hb5
    ·exact (Heir.of_own ho).pre (unhide B4).size
   have ALL:=hide (And.intro ((unhide H3).but_nil hb5) (And.intro hv5 (And.intro ((unhide B4).trans' hb5) HE5)))
   clear hv5 hb5 hp5 HE5 HE4
   go_wp2
   go_ret2
   exact ⟨v3,v5,rfl,(unhide ALL).1,(unhide ALL).2.1,(unhide ALL).2.2.1,(unhide ALL).2.2.2⟩

/-- the bound under which numbers are divided: a million words -/
def Short (X _Y : Nat) : Prop:=(wd 18446744073709551616 X).length ≤ 1000000
theorem Short.of (X Y : Nat) (h : (wd 18446744073709551616 X).length ≤ 1000000) : Short X Y:=h
theorem natQuoRem_any (vx vy : Value) (X Y : Nat) (w : World) (hx : Sl .u64 w vx (wd 18446744073709551616 X)) (hy : Sl .u64 w vy (wd 18446744073709551616 Y)) (hY : 0 < Y) (hl : (wd 18446744073709551616 X).length < 134217728) (hly : (wd 18446744073709551616 Y).length < 134217728) (hs : Short X Y) :
  Calls Tryz.prog 134 #[vx,vy] w fun e w' => ∃ v1 v2,e = .returned (.tuple #[v1,v2])∧Sl .u64 w' v1 (wd 18446744073709551616 (X / Y))∧Sl .u64 w' v2 (wd 18446744073709551616 (X % Y))∧But [] w w'∧Heir w vx w' v2 :=
 natQuoRem_of vx vy X Y w hx hy hY hl hly (fun h2 hle => by
  obtain ⟨t1,t2,-,-⟩:=top_pos Y hY
  have hz:=(lz_facts (topW Y) t1 t2).1
  have h3:=norm_len Y hY
  have h4:=shl_len X (lz (topW Y)) hz
  have h5:=wd_len_mono hle
  unfold Short at hs
  exact divideW_all (wd 18446744073709551616 (X * 2 ^ lz (topW Y))).length _ _ (Nat.le_refl _) (by omega) (by omega))

set_option maxHeartbeats 1000000 in
set_option maxRecDepth 100000 in
theorem natQuo_any (vx vy : Value) (X Y : Nat) (w : World) (hx : Sl .u64 w vx (wd 18446744073709551616 X)) (hy : Sl .u64 w vy (wd 18446744073709551616 Y)) (hY : 0 < Y) (hl : (wd 18446744073709551616 X).length < 134217728) (hly : (wd 18446744073709551616 Y).length < 134217728) (hs : Short X Y) :
  Calls Tryz.prog 69 #[vx,vy] w fun e w' => ∃ v1,e = .returned v1∧Sl .u64 w' v1 (wd 18446744073709551616 (X / Y))∧But [] w w':=by
 have HX:=hide hx
 have HQ:=hide (natQuoRem_any vx vy X Y w hx hy hY hl hly hs)
 have HO:=hide (fun r hr => natOne_any vy Y w hy (by omega) r hr)
 obtain ⟨a1,c1,rfl,-,-⟩:=hx
 obtain ⟨a2,c2,rfl,-,-⟩:=hy
 clear hs
 generalize (wd 18446744073709551616 X).length = nx at *
 generalize (wd 18446744073709551616 Y).length = ny at *
 by_cases h1 : Y = 1
 ·subst h1
  rw [Nat.div_one]
  go_enter Tryz.func69,Tryz.ntmps69
  go_wp2_with fail
  refine (unhide HO true (by show true = _; simp)).mono ?_
  rintro e w1 ⟨rfl,hw⟩
  obtain rfl:=hw.symm
  clear hw
  go_wp2
  go_ret
  exact ⟨_,rfl,unhide HX,But.refl _ _⟩
 ·go_enter Tryz.func69,Tryz.ntmps69
  go_wp2_with fail
  refine (unhide HO false (by show false = _; simp [h1])).mono ?_
  rintro e w1 ⟨rfl,hw⟩
  obtain rfl:=hw.symm
  clear hw
  go_wp2_with fail
  refine (unhide HQ).mono ?_
  rintro e w2 ⟨v1,v2,rfl,hv1,-,hb2,-⟩
  have ALL:=hide (And.intro hv1 hb2)
  clear hv1 hb2
  go_wp2
  go_ret
  exact ⟨v1,rfl,(unhide ALL).1,(unhide ALL).2⟩
end Go.Proofs.YtloojmaamaambaaGreatDoor

namespace Go.Proofs.YtloojmaamaambaaGreatDoor
open Go.RowKit

theorem Row.but {k : IntKind} {w w' : World} {g : Nat} {rs : List Nat} {l : List Nat} (h : Row k w g rs) (hb : But l w w') (hn : g ∉ l) : Row k w' g rs:=fun i hi => by
 obtain ⟨h1,h2⟩:=h i hi
 have hl:=lt_of_cell h1
 exact ⟨hb.cell_some h1 hn,(hb.frozen hl hn).trans h2⟩

set_option maxHeartbeats 2000000 in
set_option maxRecDepth 100000 in
theorem reverse_any (g cap : Nat) (bs : List Nat) (w : World) (hr : Row .u8 w g bs) (h0 : 0 < bs.length) (hl : bs.length < 1073741824) :
  Calls Tryz.prog 212 #[.slice (some ⟨g,0,none⟩) bs.length cap] w fun e w' => e = .returned (.tuple #[])∧Row .u8 w' g bs.reverse∧But [g] w w':=by
 have mixed : Tryz.prog.follows .mixedOrders = true:=by kernel_rfl
 have HR:=hide hr
 clear hr
 obtain ⟨n,hn⟩ : ∃ n,n = bs.length:=⟨_,rfl⟩
 rw [← hn] at h0 hl ⊢
 have HN:=hide hn
 clear hn
 go_enter Tryz.func212,Tryz.ntmps212
 go_wp2
 go_loopw [2,3] (fun i j wq => ∃ (k q : Nat) (cs : List Nat),i = .int .i64 k∧j = .int .i64 q∧k ≤ q + 1∧Hid (k + q + 1 = n∧RevInv bs cs k∧Row .u8 wq g cs∧But [g] w wq)) (fun i _ _ => n - (intOf i).toNat)
 case atStart => exact ⟨0,n - 1,bs,rfl,by congr 1; omega,by omega,by omega,RevInv.start _,unhide HR,But.refl _ _⟩
 case round =>
  obtain ⟨k,q,cs,rfl,rfl,hkq,HJ⟩:=hrel
  rename World => wq
  have hcl : cs.length = n:=by rw [(unhide HJ).2.1.len,unhide HN]
  have hsum:=(unhide HJ).1
  by_cases hlt : k < q
  ·obtain ⟨ck,fk⟩:=(unhide HJ).2.2.1 k (by omega)
   obtain ⟨cq,fq⟩:=(unhide HJ).2.2.1 q (by omega)
   have ST:=hide ((unhide HJ).2.1.step (by rw [← unhide HN]; omega))
   have hq : q = n - 1 - k:=by omega
   rw [← unhide HN,← hq] at ST
   have HC:=hide hcl
   have HS:=hide hsum
   have ne1 : k ≠ q:=by omega
   have hk1 : k < n:=by omega
   have hq1 : q < n:=by omega
   clear hcl hsum hq
   generalize hx : cs[k]?.getD 0 = x at *
   generalize hy : cs[q]?.getD 0 = y at *
   clear hx hy
   go_wp2_with fail
   go_region_o
   go_wp2
   refine ⟨⟨k + 1,q - 1,(cs.set k y).set q x,by go_num,by rw [Int.ofNat_sub (by omega)]; rfl,by omega,by have:=unhide HS; omega,unhide ST,?_,?_⟩,?_⟩
   ·exact (((unhide HJ).2.2.1.set k (by rw [unhide HC]; have:=unhide HS; omega) y).set q (by rw [List.length_set,unhide HC]; have:=unhide HS; omega) x).but ((But.refl [] _).drew) (by simp)
   ·exact (((unhide HJ).2.2.2.setCell (p:=⟨g,k,none⟩) (.inl (by simp)) (.int .u8 (y : Int))).setCell (p:=⟨g,q,none⟩) (.inl (by simp)) (.int .u8 (x : Int))).drew
   ·have:=unhide HS
    simp [intOf]; omega
  ·have hfin : cs = bs.reverse:=(unhide HJ).2.1.fin (by rw [← unhide HN]; omega)
   have HF:=hide hfin
   clear hfin hcl hsum
   go_wp2
   go_end0
   exact ⟨rfl,by rw [← unhide HF]; exact (unhide HJ).2.2.1,(unhide HJ).2.2.2⟩
end Go.Proofs.YtloojmaamaambaaGreatDoor

namespace Go.Proofs.YtloojmaamaambaaGreatDoor
open Go.RowKit

theorem ten608 : (10 : Nat) ^ 608 < 18446744073709551616 ^ 33:=by decide +kernel

end Go.Proofs.YtloojmaamaambaaGreatDoor

namespace Go.Proofs.YtloojmaamaambaaGreatDoor
open Go.RowKit

/-- the row of bytes does not lie in the block of the words -/
def OffB (vb vx : Value) : Prop:=∀ k,vb.ownBlock = some k→∀ b off n c,vx = .slice (some ⟨b,off,none⟩) n c→b ≠ k
theorem OffB.grow {w w' : World} {vb vb' vx : Value} {xs : List Nat} {o : Obj} (h : OffB vb vx) (hs : Sl .u64 w vx xs) (h0 : 0 < xs.length) (hg : (w.alloc o).grownBy w' vb.ownBlock) (hb : vb'.ownBlock = vb.ownBlock ∨ ∀ k,vb'.ownBlock = some k→(w.alloc o).heap.size ≤ k) : Sl .u64 w' vx xs∧OffB vb' vx:=by
 constructor
 ·have h1:=hs.but_nil ((But.refl [] w).alloc o)
  cases hr : vb.ownBlock with
  | none => rw [hr] at hg; exact h1.but_nil (grown_but_none hg)
  | some g => rw [hr] at hg; exact h1.but (grown_but hg) (fun b off cap n e => by have:=h g hr b off n cap e; simp; omega)
 ·intro k hk b off n c e
  rcases hb with hb | hb
  ·rw [hb] at hk; exact h k hk b off n c e
  ·have h1:=hb k hk
   have h2:=hs.lt h0 b off n c e
   simp at h1
   omega
theorem row_news {w : World} {g : Nat} {es : List UInt8} (h : Row .u8 w g (es.map UInt8.toNat)) : ∀ j u,(es.map u8v)[j]? = some u→w.cell? ((⟨g,0,none⟩ : Addr).add j) = some u:=fun j u hj => by
 rw [List.getElem?_map] at hj
 rcases Nat.lt_or_ge j es.length with hl | hl
 ·rw [List.getElem?_eq_getElem hl] at hj
  simp only [Option.map_some,Option.some.injEq] at hj
  have h1:=(h j (by rw [List.length_map]; exact hl)).1
  rw [List.getElem?_map,List.getElem?_eq_getElem hl] at h1
  have e : (⟨g,0,none⟩ : Addr).add j = ⟨g,j,none⟩:=by by_cases h : j = 0 <;> simp [Addr.add,h]
  rw [e,h1,← hj]
  rfl
 ·rw [List.getElem?_eq_none hl] at hj
  simp at hj
theorem ten19_lt {q : Nat} (h : 1 < (wd 18446744073709551616 q).length) : 10000000000000000000 ≤ q:=by
 rcases Nat.lt_or_ge q 18446744073709551616 with h1 | h1
 ·have:=wd_length_le (B:=18446744073709551616) (by omega) q 1 (by rw [Nat.pow_one]; exact h1)
  omega
 ·omega
end Go.Proofs.YtloojmaamaambaaGreatDoor

namespace Go.Proofs.YtloojmaamaambaaGreatDoor
open Go.RowKit

/-- ten to the power of 608, squared so often -/
def tenP (j : Nat) : Nat:=10 ^ (608 * 2 ^ j)
theorem tenP_zero : tenP 0 = 10 ^ 608:=by unfold tenP; rw [Nat.pow_zero,Nat.mul_one]
theorem tenP_succ (j : Nat) : tenP (j + 1) = tenP j * tenP j:=by
 unfold tenP
 rw [← Nat.pow_add,Nat.pow_succ,← Nat.mul_two,Nat.mul_assoc]
theorem tenP_pos (j : Nat) : 0 < tenP j:=Nat.pow_pos (by omega)
theorem tenP_gt (j : Nat) : j < tenP j:=by
 unfold tenP
 have h1 : j < 2 ^ j:=Nat.lt_two_pow_self
 have h2 : 608 * 2 ^ j < 10 ^ (608 * 2 ^ j):=Nat.lt_pow_self (by omega)
 omega
/-- how great the powers below a number of so many words are -/
theorem tenP_below (X j n : Nat) (hl : (wd 18446744073709551616 X).length ≤ n) (h : tenP j ≤ X) : 1824 * 2 ^ j < 64 * n:=by
 have h1 : X < 18446744073709551616 ^ n:=lt_of_wd_length (by omega) X _ hl
 have h2 : (2 : Nat) ^ (1824 * 2 ^ j) ≤ tenP j:=by
  unfold tenP
  have e : (2 : Nat) ^ (1824 * 2 ^ j) = (2 ^ 3) ^ (608 * 2 ^ j):=by rw [← Nat.pow_mul,← Nat.mul_assoc]
  rw [e]
  exact Nat.pow_le_pow_left (by omega) _
 have h3 : (18446744073709551616 : Nat) ^ n = 2 ^ (64 * n):=by rw [Nat.pow_mul]
 rw [h3] at h1
 have h4 : (2 : Nat) ^ (1824 * 2 ^ j) < 2 ^ (64 * n):=Nat.lt_of_le_of_lt h2 (Nat.lt_of_le_of_lt h h1)
 exact (Nat.pow_lt_pow_iff_right (by omega : 1 < 2)).1 h4
theorem info_nat : ∃ i,Tryz.prog.info? 118 = some i∧i.zero = some (.slice none 0 0)∧i.size = 1∧i.bytes = 24:=by
 have h : (Tryz.prog.info? 118).map (fun i => (i.zero,i.size,i.bytes)) = some (some (.slice none 0 0),1,24):=by kernel_rfl
 obtain ⟨i,hi,he⟩:=Option.map_eq_some_iff.1 h
 simp only [Prod.mk.injEq] at he
 exact ⟨i,hi,he.1,he.2.1,he.2.2⟩
/-- rows of words stay where a row of other things grows -/
theorem keep_grown_of {w w' : World} {base : Nat} {e : TypeId} {vo : Value} {n : Nat} {xs : List Value} (ho : w.ownsRow base e 1 vo n xs) (hn : vo = .slice none 0 0 ∨ ∃ u,xs[0]? = some u∧∀ m : Int,u ≠ .int .u64 m) (hg : w.grownBy w' vo.ownBlock) : Keep64 w w':=by
 intro v ws hs
 cases hb : vo.ownBlock with
 | none => rw [hb] at hg; exact hs.but_nil (grown_but_none hg)
 | some g =>
  rw [hb] at hg
  rcases hn with rfl | ⟨u,hu,hne⟩
  ·simp [Value.ownBlock] at hb
  ·have hc:=ho.cells hb 0 u hu
   rw [show (⟨g,0,none⟩ : Addr).add 0 = ⟨g,0,none⟩ from by simp [Addr.add]] at hc
   exact hs.over (grown_but hg) hc hne

/-- what holds of the powers found -/
structure PowAt (w : World) (X : Nat) (us : List Value) (vo vp : Value) (wr : World) : Prop where
 own : wr.ownsRow w.heap.size 118 1 vo us.length us
 all : ∀ j u,us[j]? = some u→Sl .u64 wr u (wd 18446744073709551616 (tenP j))
 pow : Sl .u64 wr vp (wd 18446744073709551616 (tenP us.length))
 but : But [] w wr
 low : ∀ j,j < us.length→tenP j ≤ X
 nil : vo = .slice none 0 0 ∨ 0 < us.length
theorem PowAt.le {w : World} {X : Nat} {us : List Value} {vo vp : Value} {wr : World} (h : PowAt w X us vo vp wr) : us.length ≤ X:=by
 rcases Nat.eq_zero_or_pos us.length with h0 | h0
 ·omega
 ·have h1:=h.low (us.length - 1) (by omega)
  have h2:=tenP_gt (us.length - 1)
  omega
theorem PowAt.first {w : World} {X : Nat} {us : List Value} {vo vp : Value} {wr : World} (h : PowAt w X us vo vp wr) : vo = .slice none 0 0 ∨ ∃ u,us[0]? = some u∧∀ m : Int,u ≠ .int .u64 m:=by
 rcases h.nil with h0 | h0
 ·exact .inl h0
 ·refine .inr ⟨us[0],List.getElem?_eq_getElem h0,fun m e => ?_⟩
  have:=h.all 0 us[0] (List.getElem?_eq_getElem h0)
  rw [e] at this
  obtain ⟨a,c,h1,-⟩:=this
  simp at h1
theorem PowAt.drewN {w : World} {X : Nat} {us : List Value} {vo vp : Value} {wr : World} (h : PowAt w X us vo vp wr) (q : Nat) : PowAt w X us vo vp (wr.drewN q) :=
 ⟨owns_but h.own ((But.refl [] _).drewN q),fun j u hj => (h.all j u hj).but_nil ((But.refl [] _).drewN q),h.pow.but_nil ((But.refl [] _).drewN q),h.but.drewN q,h.low,h.nil⟩
theorem PowAt.plen {w : World} {X : Nat} {us : List Value} {vo vp : Value} {wr : World} (h : PowAt w X us vo vp wr) : (wd 18446744073709551616 (tenP us.length)).length ≤ (wd 18446744073709551616 X).length + (wd 18446744073709551616 X).length + 33:=by
 rcases Nat.eq_zero_or_pos us.length with h0 | h0
 ·rw [h0,tenP_zero]
  have:=wd_length_le (B:=18446744073709551616) (by omega) _ _ ten608
  omega
 ·obtain ⟨j,hj⟩ : ∃ j,us.length = j + 1:=⟨us.length - 1,by omega⟩
  have h1:=wd_len_mono (h.low j (by omega))
  have h2:=wd_len_mul (tenP j) (tenP j)
  rw [hj,tenP_succ]
  omega

/-- a power more in the row -/
theorem PowAt.more {w : World} {X : Nat} {us : List Value} {vo vp : Value} {wr : World} (h : PowAt w X us vo vp wr) (hle : tenP us.length ≤ X) (hul : us.length < 35088) (W : World) (hW : W = wr.alloc (.cells #[vp] 118)) :
  ∃ v3 w3,(Builtin.append_ #[212,212] 212 #[vo,.slice (some ⟨wr.heap.size,0,none⟩) 1 1]).run Tryz.prog W = .ok v3 w3∧w3.ownsRow w.heap.size 118 1 v3 (us ++ [vp]).length (us ++ [vp])∧(∀ j u,(us ++ [vp])[j]? = some u→Sl .u64 w3 u (wd 18446744073709551616 (tenP j)))∧Sl .u64 w3 vp (wd 18446744073709551616 (tenP us.length))∧But [] w w3∧(∀ j,j < (us ++ [vp]).length→tenP j ≤ X)∧Keep64 wr w3:=by
 obtain ⟨i0,hi,hz0,hz1,hz2⟩:=info_nat
 subst hW
 have hp1 : vp.oneCell' = true:=by
  obtain ⟨a,c,rfl,-⟩:=h.pow
  rfl
 have hc : (wr.alloc (.cells #[vp] 118)).cell? ⟨wr.heap.size,0,none⟩ = some vp:=by simp
 have hbs:=h.but.size
 obtain ⟨v3,w3,hr,ho,hg,-⟩:=run_append_own (P:=Tryz.prog) (wr.alloc (.cells #[vp] 118)) w.heap.size 212 212 118 i0 (.slice none 0 0) 1 24 Tryz.underlying212 hi hz0 hz1 hz2 rfl (by decide) vo us.length us (h.own.alloc _) ⟨wr.heap.size,0,none⟩ 1 1 [vp] rfl (fun j u hj => by
  cases j with
  | zero => simp at hj; subst hj; rw [show (⟨wr.heap.size,0,none⟩ : Addr).add 0 = ⟨wr.heap.size,0,none⟩ from by simp [Addr.add]]; exact hc
  | succ j => simp at hj) (fun u hu => by simp at hu; subst hu; exact hp1) (by unfold maxLen; omega) (by omega) (by simp; omega)
 have hK : Keep64 wr w3:=(Keep64.of_but ((But.refl [] wr).alloc _)).trans (keep_grown_of (h.own.alloc _) h.first hg)
 refine ⟨v3,w3,hr,by rw [List.length_append]; exact ho,fun j u hj => ?_,hK _ _ h.pow,(h.but.alloc _).grown hg (fun k hk => (h.own.lt k hk).1),fun j hj => ?_,hK⟩
 ·rcases Nat.lt_or_ge j us.length with hl | hl
  ·rw [List.getElem?_append_left hl] at hj
   exact hK _ _ (h.all j u hj)
  ·have he : j = us.length:=by
    have:=(List.getElem?_eq_some_iff.1 hj).1
    simp at this
    omega
   subst he
   simp at hj
   subst hj
   exact hK _ _ h.pow
 ·simp at hj
  rcases Nat.lt_or_ge j us.length with hl | hl
  ·exact h.low j hl
  ·rw [show j = us.length from by omega]; exact hle

set_option maxHeartbeats 4000000 in
set_option maxRecDepth 100000 in
theorem powersFor_any (v : Value) (X : Nat) (w : World) (hv : Sl .u64 w v (wd 18446744073709551616 X)) (hl : (wd 18446744073709551616 X).length ≤ 1000000) :
  Calls Tryz.prog 168 #[v] w fun e w' => ∃ vo us,e = .returned vo∧w'.ownsRow w.heap.size 118 1 vo us.length us∧(∀ j u,us[j]? = some u→Sl .u64 w' u (wd 18446744073709551616 (tenP j)))∧But [] w w'∧(∀ j,j < us.length→tenP j ≤ X)∧X < tenP us.length:=by
 have h10 : (wd 18446744073709551616 (10 ^ 608)).length ≤ 33:=wd_length_le (by omega) _ _ ten608
 have h1 : (wd 18446744073709551616 10).length ≤ 1:=wd_length_le (by omega) _ _ (by omega)
 have PW : Hid (∀ (v1 : Value) (W : World),Sl .u64 W v1 (wd 18446744073709551616 10)→Calls Tryz.prog 104 #[v1,.int .i64 608] W fun e w' => ∃ v',e = .returned v'∧Sl .u64 w' v' (wd 18446744073709551616 (tenP 0))∧But [] W w'):=fun v1 W h => by
  rw [tenP_zero]
  exact natPow_any v1 10 608 W h (by omega) (by omega) (Nat.lt_of_le_of_lt (Nat.add_le_add h1 h10) (by omega))
 have HV:=hide hv
 have HLX:=hide hl
 clear hv h10 h1 hl
 obtain ⟨xa,xc,rfl,-,-⟩:=unhide HV
 generalize hnx : (wd 18446744073709551616 X).length = nx at *
 have NX:=hide hnx
 clear hnx
 go_enter Tryz.func168,Tryz.ntmps168
 go_wp2_with fail
 refine (natOf_any 10 (by omega) _).mono ?_
 rintro e w1 ⟨v1,rfl,hv1,hb1,-⟩
 have H1:=hide hv1
 have B1:=hide hb1
 clear hv1 hb1
 go_wp2_with fail
 refine (unhide PW v1 _ (unhide H1)).mono ?_
 rintro e w2 ⟨v2,rfl,hv2,hb2⟩
 have A0 : Hid (∃ us,PowAt w X us (.slice none 0 0) v2 w2∧X + 1 + us.length = X + 1 ):=⟨[],⟨World.ownsRow_nil _ _ _ _,fun j u h => by simp at h,hv2,(unhide B1).trans' hb2,fun j h => by simp at h,.inl rfl⟩,by simp⟩
 clear hv2 hb2 B1 H1 PW
 go_wp2_with fail
 go_loopg [3,4] (X + 1) (fun k vo vp wr => Hid (∃ us,PowAt w X us vo vp wr∧k + us.length = X + 1))
 case atStart => exact A0
 case round =>
  clear A0
  obtain ⟨us,hI,hk⟩:=unhide hrel
  clear hrel
  rename World => wr
  obtain ⟨oa,oc,hoe⟩:=owns_shape hI.own
  have hpl:=hI.plen
  rw [unhide NX] at hpl
  have hlx:=unhide HLX
  have CM:=hide (natCmp_any _ _ (tenP us.length) X wr hI.pow ((unhide HV).but_nil hI.but) (by omega) (by rw [unhide NX]; omega))
  obtain ⟨pa,pc,hpe,-,-⟩:=id hI.pow
  rcases Nat.lt_or_ge X (tenP us.length) with hlt | hge
  ·have hc : cmpN (tenP us.length) X = 1:=by
    rcases cmpN_cases (tenP us.length) X with ⟨h,-⟩ | ⟨h,-⟩ | ⟨-,h⟩
    ·omega
    ·omega
    ·exact h
   rw [hc] at CM
   have FIN:=hide (And.intro hI (And.intro hlt hoe))
   subst hoe hpe
   clear hI hpl hlt hc hk
   generalize (wd 18446744073709551616 (tenP us.length)).length = np at *
   go_wp2_with fail
   refine (unhide CM).mono ?_
   rintro e w3 ⟨rfl,q,rfl⟩
   go_wp2
   go_ret
   exact ⟨_,us,rfl,(unhide FIN).1.own,(unhide FIN).1.all,(unhide FIN).1.but.drewN q,(unhide FIN).1.low,(unhide FIN).2.1⟩
  ·have hc : cmpN (tenP us.length) X ≤ 0:=by
    rcases cmpN_cases (tenP us.length) X with ⟨-,h⟩ | ⟨-,h⟩ | ⟨h,-⟩
    ·omega
    ·omega
    ·omega
   generalize cmpN (tenP us.length) X = r at *
   have hr : decide (r ≤ 0) = true:=by simp; omega
   have hL : us.length ≤ X:=hI.le
   have h35:=tenP_below X us.length nx (by rw [unhide NX]; exact Nat.le_refl _) hge
   have hul : us.length < 35088:=Nat.lt_trans Nat.lt_two_pow_self (by omega)
   have HI:=hide hI
   have HR:=hide (And.intro hk (And.intro hL hge))
   obtain ⟨np,hnp⟩ : ∃ np,np = (wd 18446744073709551616 (tenP us.length)).length:=⟨_,rfl⟩
   have NP:=hide hnp
   rw [← hnp] at hpe hpl
   have hnp0 : 0 < np:=by
    rw [hnp,Nat.pos_iff_ne_zero]; intro e; rw [wd_len_zero (by omega)] at e
    have:=tenP_pos us.length
    omega
   have MO:=hide (fun q => (hI.drewN q).more hge hul _ rfl)
   have MU:=hide (fun W (h : Sl .u64 W u4 (wd 18446744073709551616 (tenP us.length))) => natMul_any u4 u4 _ _ W h h (by rw [← hnp]; omega))
   rw [← tenP_succ] at MU
   clear hI hk hL hge h35 hnp hc
   have SH:=hide hoe
   generalize us.length = L at hoe hul
   subst hoe hpe
   have hmul : wrap64 (2 * (np : Int)) = 2 * (np : Int):=by unfold wrap64; omega
   go_wp2_with fail
   refine (unhide CM).mono ?_
   rintro e w3 ⟨rfl,q,rfl⟩
   obtain ⟨v3,w3,hr3,ho3,ha3,hs3,hb3,hl3,hk3⟩:=unhide MO q
   have HR3:=hide hr3
   have AL:=hide (And.intro ho3 (And.intro ha3 (And.intro hs3 (And.intro hb3 hl3))))
   clear hr3 ho3 ha3 hs3 hb3 hl3 hk3 MO
   by_cases hbr : nx < 2 * np - 1
   ·have hbi : (nx : Int) < 2 * (np : Int) - 1:=by omega
    have FIN : Hid (X < tenP (us ++ [Value.slice pa np pc]).length):=by
     have h1 : X < 18446744073709551616 ^ nx:=lt_of_wd_length (by omega) X _ (Nat.le_of_eq (unhide NX))
     have h2 : 18446744073709551616 ^ (np - 1) ≤ tenP us.length:=by
      rcases Nat.lt_or_ge (tenP us.length) (18446744073709551616 ^ (np - 1)) with h | h
      ·have:=wd_length_le (B:=18446744073709551616) (by omega) _ _ h
       rw [← unhide NP] at this
       omega
      ·exact h
     show _ < _
     rw [List.length_append,List.length_singleton,tenP_succ]
     refine Nat.lt_of_lt_of_le h1 (Nat.le_trans ?_ (Nat.mul_le_mul h2 h2))
     rw [← Nat.pow_add]
     exact Nat.pow_le_pow_right (by omega) (by omega)
    clear HI MU CM HR NP SH
    go_wp2_with (at_builtin; refine wpList_app rfl _ _ 212 212 rfl _ _ v3 w3 rfl rfl (unhide HR3) ?_)
    go_ret
    exact ⟨v3,_,rfl,(unhide AL).1,(unhide AL).2.1,(unhide AL).2.2.2.1,(unhide AL).2.2.2.2,unhide FIN⟩
   ·have hbi : ¬ ((nx : Int) < 2 * (np : Int) - 1):=by omega
    clear CM
    go_wp2_with (at_builtin; refine wpList_app rfl _ _ 212 212 rfl _ _ v3 w3 rfl rfl (unhide HR3) ?_)
    go_wp2_with fail
    refine (unhide MU _ (unhide AL).2.2.1).mono ?_
    rintro e w4 ⟨v4,rfl,hv4,hb4,-⟩
    have R : Hid (∃ us',PowAt w X us' v3 v4 w4∧gk - 1 + us'.length = X + 1):=by
     refine ⟨_,⟨owns_but (unhide AL).1 hb4,fun j u hj => ((unhide AL).2.1 j u hj).but_nil hb4,?_,(unhide AL).2.2.2.1.trans' hb4,(unhide AL).2.2.2.2,.inr (by simp)⟩,?_⟩
     ·rw [List.length_append,List.length_singleton]; exact hv4
     ·have:=unhide HR
      rw [List.length_append,List.length_singleton]
      omega
    have GK : Hid (0 < gk):=by have:=unhide HR; show _ < _; omega
    clear hv4 hb4 AL HI HR MU NP
    go_wp2
    go_roundg (gk - 1)
    case measure => have:=unhide GK; omega
    case rel => exact unhide R
end Go.Proofs.YtloojmaamaambaaGreatDoor
