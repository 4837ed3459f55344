/- A row is cloned; numbers are lessened; the greatest common divisor of two numbers, as the Go text of package nat does it. -/
import Derived.Laws.Append
import Derived.OwnWalk
import Derived.WalkSpells
import Derived.Shelf.Strconv.Itoa1
import Derived.Shelf.LaysM
import Derived.Shelf.Strconv.Itoa2
import Derived.Shelf.Small.Bits
import Derived.Test.YtndcigdphgojpaaGreatDoorProg
import Derived.Laws.Bits64b
import Derived.Lib.ItoaNum
import Derived.Deep.RegionHeld
import Derived.Laws.OwnMore
import Derived.Test.YtndcigdphgojpaaGreatDoorKTN18
import Derived.Test.YtndcigdphgojpaaGreatDoorKTN31
namespace Go.Proofs.YtndcigdphgojpaaGreatDoor
open Go.RowKit

/-- the built-in append, by its run -/
theorem wpList_app {P : Program} {w : World} {ops : Array Oper} {rest : List Oper} {o : Oper} {a : Act} {Q : Exit→Act→World→Prop} (hgd : o.guard = none) (s x : Operand) (t u : TypeId)
  (ho : o.op = .call { callee:=.builtin .append,args:=#[s,x],argTypes:=#[t,u] }) (vs vx v' : Value) (w' : World) (hs : a.eval s = vs) (hx : a.eval x = vx)
  (hr : (Builtin.append_ #[t,u] o.type #[vs,vx]).run P w = .ok v' w') (h : wpList P ops Q rest (a.put o.dst v') w') : wpList P ops Q (o :: rest) a w :=
 wpList_plain hgd fun _ hK => by
  unfold Oper.wp execOp
  simp only [ho,resolve,invoke,builtin,Sem.run_bind,Sem.run_pure,Result.andThen_ok,List.map_toArray,List.map_cons,List.map_nil,hs,hx,hr]
  exact hK _ _ h

set_option maxHeartbeats 1000000 in
set_option maxRecDepth 100000 in
theorem clone_any (b off c : Nat) (xs : List Nat) (w : World) (hv : Sl .u64 w (.slice (some ⟨b,off,none⟩) xs.length c) xs) (h0 : 0 < xs.length) (hl : xs.length < 1073741824) :
  Calls Tryz.prog 57 #[.slice (some ⟨b,off,none⟩) xs.length c] w fun e w' => ∃ v',e = .returned v'∧Sl .u64 w' v' xs∧But [] w w'∧Own w.heap.size w' v'∧(∃ g c',v' = .slice (some ⟨g,0,none⟩) xs.length c'):=by
 have hnil:=fun W => Lib.run_eql_slice_nil (P:=Tryz.prog) W 71 33 (some ⟨b,off,none⟩) xs.length c 0 0 Tryz.underlying71
 obtain ⟨i,hi,hz,hs,hbt⟩:=info_u64
 obtain ⟨W0,hW0⟩ : ∃ W0,W0 = w.alloc (.cells #[] 33):=⟨_,rfl⟩
 have hb0 : But [] w W0:=by rw [hW0]; exact (But.refl _ _).alloc _
 have hv0:=hv.but_nil hb0
 rcases hv0.open with ⟨e,-⟩ | ⟨-,b',off',c',e,hc,-,hcell⟩
 ·rw [e] at h0; simp at h0
 simp only [Value.slice.injEq,Option.some.injEq,Addr.mk.injEq] at e
 obtain ⟨⟨rfl,rfl,-⟩,-,rfl⟩:=e
 have hr:=fun ty => run_append_grow (P:=Tryz.prog) W0 71 ty 33 i (.int .u64 0) Tryz.underlying71 hi hz ⟨w.heap.size,0,none⟩ 0 0 [] (by simp) (by simp) ⟨b,off,none⟩ xs.length c (xs.map fun (x : Nat) => Value.int .u64 (x : Int)) (by simp [hs]) (fun j v hj => by
  obtain ⟨h1,rfl⟩:=getD_map_u64 xs j v hj
  rw [addr_add]; exact hcell j h1) (by omega) (by omega) (growslice_fits (by omega) (by rw [hbt]; omega))
 have hcg:=grownCap_ge W0 (0 + xs.length) 0 33
 rw [Nat.zero_add] at hr hcg
 generalize grownCap W0 xs.length 0 33 = cg at hr hcg
 have hsz : W0.heap.size = w.heap.size + 1:=by rw [hW0]; simp
 rw [hW0] at hr
 have H:=hide hr
 have HW0:=hide hW0
 have HB0:=hide hb0
 have HSZ:=hide hsz
 clear hr hi hz hs hbt i hv hcell hv0 hW0 hb0 hsz
 go_enter Tryz.func57,Tryz.ntmps57
 go_wp2_with (at_builtin; refine wpList_app rfl _ _ 71 71 rfl _ _ _ _ rfl rfl (unhide H _) ?_)
 go_ret
 rw [← unhide HW0]
 have es : w.heap.size + 1 = W0.heap.size:=(unhide HSZ).symm
 refine ⟨.slice (some ⟨w.heap.size + 1,0,none⟩) xs.length cg,rfl,?_,((unhide HB0).alloc _).drew,?_,⟨_,_,rfl⟩⟩
 ·rw [es]
  exact Sl.mk W0.heap.size 0 cg hcg (fun j hj => by
   rw [Nat.zero_add,World.cell?_drew,World.cell?_alloc_new,Array.getElem?_append_left (by simp; exact hj)]
   simp [hj]) (fun _ i v hv => by
   rw [World.cell?_drew,World.cell?_alloc_new] at hv
   have hm:=Array.mem_of_getElem? hv
   rw [Array.mem_append] at hm
   rcases hm with hm | hm
   ·simp only [List.mem_toArray,List.mem_map] at hm
    obtain ⟨x,-,rfl⟩:=hm
    exact ⟨_,rfl⟩
   ·unfold Builtin.zeroCells at hm
    exact ⟨0,by simp at hm; grind⟩)
 ·intro b off n c e
  simp only [Value.slice.injEq,Option.some.injEq,Addr.mk.injEq] at e
  obtain ⟨⟨rfl,rfl,-⟩,-,-⟩:=e
  refine ⟨by omega,fun i _ => ?_⟩
  rw [es]
  simp

/-- two rows that don't share a block -/
def Apart (v1 v2 : Value) : Prop:=∀ b off n c b' off' n' c',v1 = .slice (some ⟨b,off,none⟩) n c→v2 = .slice (some ⟨b',off',none⟩) n' c'→b ≠ b'
/-- the two numbers of a round: in rows of the call's own, apart from each other -/
structure Pair (lo : Nat) (w : World) (v1 v2 : Value) (X Y : Nat) : Prop where
 s1 : Sl .u64 w v1 (wd 18446744073709551616 X)
 s2 : Sl .u64 w v2 (wd 18446744073709551616 Y)
 o1 : Own lo w v1
 o2 : Own lo w v2
 ap : Apart v1 v2
theorem Sl.seg {w : World} {g o c n : Nat} {xs : List Nat} (h : Sl .u64 w (.slice (some ⟨g,o,none⟩) n c) xs) (ho : ∀ i,i < n→w.frozen? ⟨g,o + i,none⟩ = false) : Seg w g o xs:=⟨fun i hi => by
 obtain ⟨a,cap,e,-,hc,-⟩:=h
 simp only [Value.slice.injEq] at e
 obtain ⟨rfl,rfl,-⟩:=e
 obtain ⟨b,off,e,h2⟩:=hc i hi
 simp only [Option.some.injEq,Addr.mk.injEq] at e
 obtain ⟨rfl,rfl,-⟩:=e
 exact ⟨h2,ho i hi⟩,fun h0 => by
 obtain ⟨a,cap,e,-,-,hi⟩:=h
 simp only [Value.slice.injEq] at e
 obtain ⟨rfl,-,-⟩:=e
 exact hi _ _ rfl h0⟩
theorem OwnIn.own {g lo : Nat} {w : World} {v : Value} (h : OwnIn g w v) (hg : lo ≤ g) : Own lo w v:=fun b off n c e => by
 obtain ⟨rfl,h2⟩:=h b off n c e
 exact ⟨hg,h2⟩
theorem Own.but {lo : Nat} {w w' : World} {v : Value} {k : IntKind} {xs : List Nat} (h : Own lo w v) (hs : Sl k w v xs) (hb : But [] w w') : Own lo w' v:=fun b off n c e => by
 obtain ⟨h1,h2⟩:=h b off n c e
 refine ⟨h1,fun i hi => ?_⟩
 obtain ⟨a,cap,e2,-,hc,-⟩:=hs
 rw [e] at e2
 simp only [Value.slice.injEq] at e2
 obtain ⟨rfl,rfl,-⟩:=e2
 obtain ⟨b',off',e3,h4⟩:=hc i hi
 simp only [Option.some.injEq,Addr.mk.injEq] at e3
 obtain ⟨rfl,rfl,-⟩:=e3
 exact (hb.frozen (p:=⟨b,off + i,none⟩) (lt_of_cell h4) (by simp)).trans (h2 i hi)
theorem Pair.but {lo : Nat} {w w' : World} {v1 v2 : Value} {X Y : Nat} (h : Pair lo w v1 v2 X Y) (hb : But [] w w') : Pair lo w' v1 v2 X Y :=
 ⟨h.s1.but_nil hb,h.s2.but_nil hb,h.o1.but h.s1 hb,h.o2.but h.s2 hb,h.ap⟩
end Go.Proofs.YtndcigdphgojpaaGreatDoor

namespace Go.Proofs.YtndcigdphgojpaaGreatDoor
open Go.RowKit

set_option maxHeartbeats 2000000 in
set_option maxRecDepth 100000 in
theorem divide_less (X Y : Nat) (hlt : X < Y) (hl : (wd 18446744073709551616 Y).length < 268435456) : DivideW X Y:=by
 intro vx vy w hx hy
 have hlen:=wd_len_mono (Nat.le_of_lt hlt)
 have hcmp:=natCmp_any vx vy X Y w hx hy (by omega) (by omega)
 rw [cmpN_lt hlt] at hcmp
 rw [Nat.div_eq_of_lt hlt,Nat.mod_eq_of_lt hlt,wd_zero]
 have HC:=hide hcmp
 have HX:=hide hx
 obtain ⟨a1,c1,rfl,-,-⟩:=hx
 obtain ⟨a2,c2,rfl,-,-⟩:=hy
 clear hcmp
 generalize (wd 18446744073709551616 X).length = nx at *
 generalize (wd 18446744073709551616 Y).length = ny at *
 go_enter Tryz.func97,Tryz.ntmps97
 go_wp2_with fail
 refine (unhide HC).mono ?_
 rintro e w1 ⟨rfl,q,rfl⟩
 go_wp2
 go_ret2
 exact ⟨_,_,rfl,Sl.nil _ _,unhide HX,(But.refl _ _).drewN q,Heir.self _ _ _⟩

set_option maxHeartbeats 2000000 in
set_option maxRecDepth 100000 in
theorem divide_parts (X Y : Nat) (hle : Y ≤ X) (h80 : 80 ≤ (wd 18446744073709551616 Y).length) (hp : (wd 18446744073709551616 Y).length + (wd 18446744073709551616 Y).length < (wd 18446744073709551616 X).length) (hl : (wd 18446744073709551616 X).length + (wd 18446744073709551616 Y).length < 4194304) (hD : ∀ D,(wd 18446744073709551616 D).length ≤ (wd 18446744073709551616 Y).length + (wd 18446744073709551616 Y).length→DivideW D Y) : DivideW X Y:=by
 intro vx vy w hx hy
 have hY : 0 < Y:=by
  rcases Nat.eq_zero_or_pos Y with h | h
  ·subst h; rw [wd_zero] at h80; simp at h80
  ·exact h
 have hcmp:=natCmp_any vx vy X Y w hx hy (by omega) (by omega)
 have hc0:=cmpN_ge hle
 generalize cmpN X Y = r at *
 have HC:=hide hcmp
 have LD:=hide (fun (W : World) (h1 : Sl .u64 W vx (wd 18446744073709551616 X)) (h3 : Sl .u64 W vy (wd 18446744073709551616 Y)) => divideParts_any vx vy X Y W h1 h3 hY (by omega) hD hl)
 have HX:=hide hx
 have HY:=hide hy
 obtain ⟨a1,c1,rfl,-,-⟩:=hx
 obtain ⟨a2,c2,rfl,-,-⟩:=hy
 clear hcmp hD
 generalize (wd 18446744073709551616 X).length = nx at *
 generalize (wd 18446744073709551616 Y).length = ny at *
 have hr : decide (r < 0) = false:=by simp; omega
 go_enter Tryz.func97,Tryz.ntmps97
 go_wp2_with fail
 refine (unhide HC).mono ?_
 rintro e w1 ⟨rfl,q,rfl⟩
 go_wp2_with fail
 refine (unhide LD _ (by exact unhide HX) (by exact unhide HY)).mono ?_
 rintro e w2 ⟨v1,v2,rfl,h1,h3,h4,h5⟩
 have ALL:=hide (And.intro h1 (And.intro h3 (And.intro (((But.refl [] _).drewN q).trans' h4) (h5.pre (w:=w) (Nat.le_refl _)))))
 clear h1 h3 h4 h5 LD HC
 go_wp2
 go_ret2
 exact ⟨v1,v2,rfl,(unhide ALL).1,(unhide ALL).2.1,(unhide ALL).2.2.1,(unhide ALL).2.2.2⟩

set_option maxHeartbeats 2000000 in
set_option maxRecDepth 100000 in
theorem divide_halves (X Y n : Nat) (hle : Y ≤ X) (h80 : 80 ≤ (wd 18446744073709551616 Y).length) (hm : (wd 18446744073709551616 Y).length + 80 ≤ (wd 18446744073709551616 X).length) (hp : (wd 18446744073709551616 X).length ≤ (wd 18446744073709551616 Y).length + (wd 18446744073709551616 Y).length) (hn : n = ((wd 18446744073709551616 X).length - (wd 18446744073709551616 Y).length) / 2) (hl : (wd 18446744073709551616 X).length + (wd 18446744073709551616 Y).length + n < 8388608) (hD1 : DivideW (X / 18446744073709551616 ^ n / 18446744073709551616 ^ n) (Y / 18446744073709551616 ^ n)) (hD2 : DivideW (X / 18446744073709551616 ^ n % Y) (Y / 18446744073709551616 ^ n)) : DivideW X Y:=by
 intro vx vy w hx hy
 have hYn : 0 < Y / 18446744073709551616 ^ n:=by
  have:=wd_len_div n Y
  rcases Nat.eq_zero_or_pos (Y / 18446744073709551616 ^ n) with h | h
  ·rw [h,wd_zero,List.length_nil] at this; omega
  ·exact h
 have hcmp:=natCmp_any vx vy X Y w hx hy (by omega) (by omega)
 have hc0:=cmpN_ge hle
 generalize cmpN X Y = r at *
 have HC:=hide hcmp
 have LD:=hide (fun (W : World) (h1 : Sl .u64 W vx (wd 18446744073709551616 X)) (h3 : Sl .u64 W vy (wd 18446744073709551616 Y)) => divideHalves_any vx vy X Y n W h1 h3 hYn hD1 hD2 hl)
 have HX:=hide hx
 have HY:=hide hy
 obtain ⟨a1,c1,rfl,-,-⟩:=hx
 obtain ⟨a2,c2,rfl,-,-⟩:=hy
 clear hcmp hD1 hD2 hYn
 generalize (wd 18446744073709551616 X).length = nx at *
 generalize (wd 18446744073709551616 Y).length = ny at *
 have hr : decide (r < 0) = false:=by simp; omega
 have e1 : ((nx : Int) - (ny : Int)) / 2 = (n : Int):=by omega
 clear hn
 go_enter Tryz.func97,Tryz.ntmps97
 go_wp2_with fail
 refine (unhide HC).mono ?_
 rintro e w1 ⟨rfl,q,rfl⟩
 go_wp2_with fail
 refine (unhide LD _ (by exact unhide HX) (by exact unhide HY)).mono ?_
 rintro e w2 ⟨v1,v2,rfl,h1,h3,h4,h5⟩
 have ALL:=hide (And.intro h1 (And.intro h3 (And.intro (((But.refl [] _).drewN q).trans' h4) (h5.pre (w:=w) (Nat.le_refl _)))))
 clear h1 h3 h4 h5 LD HC
 go_wp2
 go_ret2
 exact ⟨v1,v2,rfl,(unhide ALL).1,(unhide ALL).2.1,(unhide ALL).2.2.1,(unhide ALL).2.2.2⟩

/-- numbers of any length, up to some two million words -/
theorem divideW_all (m : Nat) : ∀ X Y,(wd 18446744073709551616 X).length ≤ m→2 ≤ (wd 18446744073709551616 Y).length→m + (wd 18446744073709551616 Y).length < 2097152→DivideW X Y:=by
 induction m with
 | zero =>
  intro X Y hX h2 hl
  have h0 : X = 0:=(wd_len_zero (B:=18446744073709551616) (by omega) X).1 (by omega)
  have hY : 0 < Y:=by
   rcases Nat.eq_zero_or_pos Y with h | h
   ·subst h; rw [wd_zero] at h2; simp at h2
   ·exact h
  exact divide_less X Y (by omega) (by omega)
 | succ m ih =>
  intro X Y hX h2 hl
  rcases Nat.lt_or_ge X Y with hlt | hge
  ·exact divide_less X Y hlt (by omega)
  ·by_cases hs : (wd 18446744073709551616 X).length < (wd 18446744073709551616 Y).length + 80 ∨ (wd 18446744073709551616 Y).length < 80
   ·intro vx vy w hx hy
    exact (divide_short X Y h2 hge (by omega) hs vx vy w hx hy).mono fun e w' ⟨v1,v2,h1,h3,h4,h5,h6⟩ => ⟨v1,v2,h1,h3,h4,h5,Heir.of_own (h6 hge)⟩
   ·by_cases hp : (wd 18446744073709551616 Y).length + (wd 18446744073709551616 Y).length < (wd 18446744073709551616 X).length
    ·exact divide_parts X Y hge (by omega) hp (by omega) (fun D hD => ih D Y (by omega) h2 (by omega))
    ·obtain ⟨n,hn⟩ : ∃ n,n = ((wd 18446744073709551616 X).length - (wd 18446744073709551616 Y).length) / 2:=⟨_,rfl⟩
     have l1:=wd_len_div n X
     have l2:=wd_len_div n (X / 18446744073709551616 ^ n)
     have l3:=wd_len_div n Y
     have l4 : (wd 18446744073709551616 (X / 18446744073709551616 ^ n % Y)).length ≤ (wd 18446744073709551616 Y).length:=wd_len_mono (Nat.le_of_lt (Nat.mod_lt _ (by
      rcases Nat.eq_zero_or_pos Y with h | h
      ·subst h; rw [wd_zero] at h2; simp at h2
      ·exact h)))
     exact divide_halves X Y n hge (by omega) (by omega) (by omega) hn (by omega) (ih _ _ (by omega) (by omega) (by omega)) (ih _ _ (by omega) (by omega) (by omega))
end Go.Proofs.YtndcigdphgojpaaGreatDoor

namespace Go.Proofs.YtndcigdphgojpaaGreatDoor
open Go.RowKit

set_option maxHeartbeats 4000000 in
set_option maxRecDepth 100000 in
theorem natQuoRem_of (vx vy : Value) (X Y : Nat) (w : World) (hx : Sl .u64 w vx (wd 18446744073709551616 X)) (hy : Sl .u64 w vy (wd 18446744073709551616 Y)) (hY : 0 < Y) (hl : (wd 18446744073709551616 X).length < 134217728) (hly : (wd 18446744073709551616 Y).length < 134217728)
  (hD : 2 ≤ (wd 18446744073709551616 Y).length→Y ≤ X→DivideW (X * 2 ^ lz (topW Y)) (Y * 2 ^ lz (topW Y))) :
  Calls Tryz.prog 61 #[vx,vy] w fun e w' => ∃ v1 v2,e = .returned (.tuple #[v1,v2])∧Sl .u64 w' v1 (wd 18446744073709551616 (X / Y))∧Sl .u64 w' v2 (wd 18446744073709551616 (X % Y))∧But [] w w'∧Heir w vx w' v2:=by
 have hcmp:=natCmp_any vx vy X Y w hx hy (by omega) (by omega)
 rcases Nat.lt_or_ge X Y with hlt | hge
 ·rw [cmpN_lt hlt] at hcmp
  rw [Nat.div_eq_of_lt hlt,Nat.mod_eq_of_lt hlt,wd_zero]
  have HC:=hide hcmp
  have HX:=hide hx
  obtain ⟨a1,c1,rfl,-,-⟩:=hx
  obtain ⟨a2,c2,rfl,-,-⟩:=hy
  clear hcmp hD
  generalize (wd 18446744073709551616 X).length = nx at *
  generalize (wd 18446744073709551616 Y).length = ny at *
  go_enter Tryz.func61,Tryz.ntmps61
  go_wp2_with fail
  refine (unhide HC).mono ?_
  rintro e w1 ⟨rfl,q,rfl⟩
  go_wp2
  go_ret2
  exact ⟨_,_,rfl,Sl.nil _ _,unhide HX,(But.refl _ _).drewN q,Heir.self _ _ _⟩
 ·have hc0:=cmpN_ge hge
  generalize cmpN X Y = r at *
  have hr : decide (r < 0) = false:=by simp; omega
  have HC:=hide hcmp
  have HX:=hide hx
  have HY:=hide hy
  rcases hy.open with ⟨e,-⟩ | ⟨hp,b2,o2,c2,rfl,hc2,-,hcell⟩
  ·rw [wd_nil_iff (by omega)] at e; omega
  obtain ⟨a1,c1,rfl,-,-⟩:=hx
  by_cases h1 : (wd 18446744073709551616 Y).length = 1
  ·have hYB : Y < 18446744073709551616:=by
    have:=lt_of_wd_length (B:=18446744073709551616) (by omega) Y 1 (by omega)
    rw [Nat.pow_one] at this
    exact this
   have hc:=hcell 0 (by omega)
   rw [Nat.add_zero,wd_word Y hY hYB] at hc
   simp only [List.getElem?_cons_zero,Option.getD_some] at hc
   have HB:=hide (fun (W : World) (h : Sl .u64 W (.slice a1 (wd 18446744073709551616 X).length c1) (wd 18446744073709551616 X)) => byWord_any _ X Y W h (by omega) hY hYB)
   have hmod : X % Y < 18446744073709551616:=Nat.lt_trans (Nat.mod_lt _ hY) hYB
   clear hcmp hD hcell hy
   generalize hnx : (wd 18446744073709551616 X).length = nx at *
   generalize hny : (wd 18446744073709551616 Y).length = ny at *
   clear hnx hny
   have e1 : ((ny : Int) == 1) = true:=beq_iff_eq.2 (by omega)
   have hp1 : (0 : Int) < (ny : Int):=by omega
   have HE:=hide h1
   clear h1
   go_enter Tryz.func61,Tryz.ntmps61
   go_wp2_with fail
   refine (unhide HC).mono ?_
   rintro e w1 ⟨rfl,q,rfl⟩
   go_wp2_with fail
   refine (unhide HB _ (by exact unhide HX)).mono ?_
   rintro e w2 ⟨v1,rfl,hv1,hb2⟩
   have B2 : Hid (But [] w w2):=((But.refl [] _).drewN q).trans' hb2
   have HV1:=hide hv1
   clear hb2 hv1
   go_wp2_with fail
   refine (natOf_any (X % Y) hmod _).mono ?_
   rintro e w3 ⟨v2,rfl,hv2,hb3,ho3⟩
   have ALL:=hide (And.intro ((unhide HV1).but_nil hb3) (And.intro hv2 (And.intro ((unhide B2).trans' hb3) (ho3.mono (unhide B2).size))))
   clear hv2 hb3 ho3
   go_wp2
   go_ret2
   exact ⟨v1,v2,rfl,(unhide ALL).1,(unhide ALL).2.1,(unhide ALL).2.2.1,Heir.of_own (unhide ALL).2.2.2⟩
  ·obtain ⟨t1,t2,-,-⟩:=top_pos Y hY
   have hs:=(lz_facts (topW Y) t1 t2).1
   have hDO:=hD (by omega) hge
   have hct:=hcell ((wd 18446744073709551616 Y).length - 1) (by omega)
   have LZ:=hide (fun W => lead_any (topW Y) t1 t2 W)
   have hnl:=norm_len Y hY
   have hsl:=shl_len X (lz (topW Y)) hs
   rw [show (wd 18446744073709551616 Y)[(wd 18446744073709551616 Y).length - 1]?.getD 0 = topW Y from rfl] at hct
   have HL1:=hide (fun (W : World) (h : Sl .u64 W (.slice a1 (wd 18446744073709551616 X).length c1) (wd 18446744073709551616 X)) => natLeft_any _ X (lz (topW Y)) W h (by omega) hs)
   have HL2:=hide (fun (W : World) (h : Sl .u64 W (.slice (some ⟨b2,o2,none⟩) (wd 18446744073709551616 Y).length c2) (wd 18446744073709551616 Y)) => natLeft_any _ Y (lz (topW Y)) W h (by omega) hs)
   have hz : 0 < 2 ^ lz (topW Y):=Nat.pow_pos (by omega)
   have HDO:=hide hDO
   unfold DivideW at HDO
   rw [Nat.mul_div_mul_right _ _ hz,Nat.mul_mod_mul_right] at HDO
   have hrl : (wd 18446744073709551616 (X % Y * 2 ^ lz (topW Y))).length < 1073741824:=by
    have:=shl_len (X % Y) (lz (topW Y)) hs
    have h3:=wd_len_mono (Nat.mod_le X Y)
    omega
   have HRR:=hide (fun (v : Value) (W : World) (h : Sl .u64 W v (wd 18446744073709551616 (X % Y * 2 ^ lz (topW Y)))) => natRight_any v (X % Y * 2 ^ lz (topW Y)) (lz (topW Y)) W h hrl hs)
   rw [Nat.mul_div_cancel _ hz] at HRR
   clear hcmp hD hDO hcell hy hnl hsl hz
   generalize lz (topW Y) = s at *
   generalize topW Y = t at *
   generalize hnx : (wd 18446744073709551616 X).length = nx at *
   generalize hny : (wd 18446744073709551616 Y).length = ny at *
   clear hnx hny
   have e1 : ((ny : Int) == 1) = false:=beq_eq_false_iff_ne.2 (by omega)
   go_enter Tryz.func61,Tryz.ntmps61
   go_wp2_with fail
   refine (unhide HC).mono ?_
   rintro e w1 ⟨rfl,q,rfl⟩
   go_wp2_with fail
   refine (unhide LZ _).mono ?_
   rintro e w1 ⟨rfl,hw⟩
   obtain rfl:=hw.symm
   clear hw
   go_wp2_with fail
   refine (unhide HL1 _ (by exact unhide HX)).mono ?_
   rintro e w2 ⟨v1,rfl,hv1,hb2,hp2⟩
   have B2 : Hid (But [] w w2):=((But.refl [] _).drewN q).trans' hb2
   have HE1 : Hid (Heir w (.slice a1 nx c1) w2 v1):=by
    rcases hp2 with rfl | ho
    ·exact Heir.self _ _ _
    ·exact (Heir.of_own ho).pre (Nat.le_refl _)
   have HV1:=hide hv1
   clear hb2 hv1 hp2
   go_wp2_with fail
   refine (unhide HL2 _ ((unhide HY).but_nil (unhide B2))).mono ?_
   rintro e w3 ⟨v2,rfl,hv2,hb3,-⟩
   have B3 : Hid (But [] w w3):=(unhide B2).trans' hb3
   have HV2:=hide hv2
   have HV1':=hide ((unhide HV1).but_nil hb3)
   have HE1':=hide ((unhide HE1).but (unhide HV1) hb3)
   clear hv2 hb3 HV1 HE1
   go_wp2_with fail
   refine (unhide HDO v1 v2 _ (unhide HV1') (unhide HV2)).mono ?_
   rintro e w4 ⟨v3,v4,rfl,hv3,hv4,hb4,he4⟩
   have B4 : Hid (But [] w w4):=(unhide B3).trans' hb4
   have H3:=hide hv3
   have H4:=hide hv4
   have HE4:=hide ((unhide HE1').trans (unhide HV1') hb4 (unhide B3).size he4)
   clear hv3 hv4 hb4 he4 HE1'
   go_wp2_with fail
   refine (unhide HRR v4 _ (unhide H4)).mono ?_
   rintro e w5 ⟨v5,rfl,hv5,hb5,hp5⟩
   have HE5 : Heir w (.slice a1 nx c1) w5 v5:=by
    rcases hp5 with rfl | ho
    ·exact (unhide HE4).but (unhide H4) hb5
    ·exact (Heir.of_own ho).pre (unhide B4).size
   have ALL:=hide (And.intro ((unhide H3).but_nil hb5) (And.intro hv5 (And.intro ((unhide B4).trans' hb5) HE5)))
   clear hv5 hb5 hp5 HE5 HE4
   go_wp2
   go_ret2
   exact ⟨v3,v5,rfl,(unhide ALL).1,(unhide ALL).2.1,(unhide ALL).2.2.1,(unhide ALL).2.2.2⟩

/-- the bound under which numbers are divided: a million words -/
def Short (X _Y : Nat) : Prop:=(wd 18446744073709551616 X).length ≤ 1000000
theorem Short.of (X Y : Nat) (h : (wd 18446744073709551616 X).length ≤ 1000000) : Short X Y:=h
theorem natQuoRem_any (vx vy : Value) (X Y : Nat) (w : World) (hx : Sl .u64 w vx (wd 18446744073709551616 X)) (hy : Sl .u64 w vy (wd 18446744073709551616 Y)) (hY : 0 < Y) (hl : (wd 18446744073709551616 X).length < 134217728) (hly : (wd 18446744073709551616 Y).length < 134217728) (hs : Short X Y) :
  Calls Tryz.prog 61 #[vx,vy] w fun e w' => ∃ v1 v2,e = .returned (.tuple #[v1,v2])∧Sl .u64 w' v1 (wd 18446744073709551616 (X / Y))∧Sl .u64 w' v2 (wd 18446744073709551616 (X % Y))∧But [] w w'∧Heir w vx w' v2 :=
 natQuoRem_of vx vy X Y w hx hy hY hl hly (fun h2 hle => by
  obtain ⟨t1,t2,-,-⟩:=top_pos Y hY
  have hz:=(lz_facts (topW Y) t1 t2).1
  have h3:=norm_len Y hY
  have h4:=shl_len X (lz (topW Y)) hz
  have h5:=wd_len_mono hle
  unfold Short at hs
  exact divideW_all (wd 18446744073709551616 (X * 2 ^ lz (topW Y))).length _ _ (Nat.le_refl _) (by omega) (by omega))

set_option maxHeartbeats 1000000 in
set_option maxRecDepth 100000 in
theorem natQuo_any (vx vy : Value) (X Y : Nat) (w : World) (hx : Sl .u64 w vx (wd 18446744073709551616 X)) (hy : Sl .u64 w vy (wd 18446744073709551616 Y)) (hY : 0 < Y) (hl : (wd 18446744073709551616 X).length < 134217728) (hly : (wd 18446744073709551616 Y).length < 134217728) (hs : Short X Y) :
  Calls Tryz.prog 30 #[vx,vy] w fun e w' => ∃ v1,e = .returned v1∧Sl .u64 w' v1 (wd 18446744073709551616 (X / Y))∧But [] w w':=by
 have HX:=hide hx
 have HQ:=hide (natQuoRem_any vx vy X Y w hx hy hY hl hly hs)
 have HO:=hide (fun r hr => natOne_any vy Y w hy (by omega) r hr)
 obtain ⟨a1,c1,rfl,-,-⟩:=hx
 obtain ⟨a2,c2,rfl,-,-⟩:=hy
 clear hs
 generalize (wd 18446744073709551616 X).length = nx at *
 generalize (wd 18446744073709551616 Y).length = ny at *
 by_cases h1 : Y = 1
 ·subst h1
  rw [Nat.div_one]
  go_enter Tryz.func30,Tryz.ntmps30
  go_wp2_with fail
  refine (unhide HO true (by show true = _; simp)).mono ?_
  rintro e w1 ⟨rfl,hw⟩
  obtain rfl:=hw.symm
  clear hw
  go_wp2
  go_ret
  exact ⟨_,rfl,unhide HX,But.refl _ _⟩
 ·go_enter Tryz.func30,Tryz.ntmps30
  go_wp2_with fail
  refine (unhide HO false (by show false = _; simp [h1])).mono ?_
  rintro e w1 ⟨rfl,hw⟩
  obtain rfl:=hw.symm
  clear hw
  go_wp2_with fail
  refine (unhide HQ).mono ?_
  rintro e w2 ⟨v1,v2,rfl,hv1,-,hb2,-⟩
  have ALL:=hide (And.intro hv1 hb2)
  clear hv1 hb2
  go_wp2
  go_ret
  exact ⟨v1,rfl,(unhide ALL).1,(unhide ALL).2⟩
end Go.Proofs.YtndcigdphgojpaaGreatDoor

namespace Go.Proofs
open Go.Shelf
def Tryz.lays283_ren : Go.Shelf.Ren := ⟨fun | 283 => 120 | n => n, fun | 3 => 3 | 4 => 4 | 9 => 9 | n => n, fun | n => n⟩
theorem Tryz.lays283 : Go.Proofs.Lays.n283 Tryz.prog Tryz.lays283_ren := {
  mixed := by kernel_rfl
  f283 := Tryz.func120.trans (congrArg some (by kernel_rfl))
  t3 := Tryz.underlying3
  a3 := Tryz.isAgg3
  z3 := Tryz.sizeOf3
  v3 := Tryz.zeroValue3
  t4 := Tryz.underlying4
  a4 := Tryz.isAgg4
  z4 := Tryz.sizeOf4
  v4 := Tryz.zeroValue4
  t9 := Tryz.underlying9
  a9 := Tryz.isAgg9
  z9 := Tryz.sizeOf9
  v9 := Tryz.zeroValue9 }
open Go.Lib in
theorem Tryz.internal_strconv_small (i : Nat) (h : i < 100) (w : World) :
  Calls Tryz.prog 120 #[.int .i64 i] w fun e w' => e = .returned (.string ⟨(Lib.decDigits i).toArray⟩)∧w' = w:=Any.internal_strconv_small Tryz.lays283 i h w
def Tryz.laysM284_ren : Go.Shelf.Ren := ⟨fun | 129 => 132 | 284 => 121 | 317 => 142 | 318 => 143 | n => n, fun | 0 => 0 | 3 => 3 | 4 => 4 | 5 => 5 | 9 => 9 | 46 => 63 | 53 => 33 | 212 => 199 | n => n, fun | 17 => 5 | n => n⟩
theorem Tryz.laysM284 : Go.Proofs.LaysM.n284 Tryz.prog Tryz.laysM284_ren := {
  mixed := by kernel_rfl
  f129 := Tryz.func132.trans (congrArg some (by kernel_rfl))
  f284 := Tryz.func121.trans (congrArg some (by kernel_rfl))
  f317 := Tryz.func142.trans (congrArg some (by kernel_rfl))
  f318 := Tryz.func143.trans (congrArg some (by kernel_rfl))
  t0 := Tryz.underlying0
  a0 := Tryz.isAgg0
  z0 := Tryz.sizeOf0
  v0 := Tryz.zeroValue0
  t3 := Tryz.underlying3
  a3 := Tryz.isAgg3
  z3 := Tryz.sizeOf3
  v3 := Tryz.zeroValue3
  t4 := Tryz.underlying4
  a4 := Tryz.isAgg4
  z4 := Tryz.sizeOf4
  v4 := Tryz.zeroValue4
  t5 := Tryz.underlying5
  a5 := Tryz.isAgg5
  z5 := Tryz.sizeOf5
  v5 := Tryz.zeroValue5
  t9 := Tryz.underlying9
  a9 := Tryz.isAgg9
  z9 := Tryz.sizeOf9
  v9 := Tryz.zeroValue9
  t46 := Tryz.underlying63
  a46 := Tryz.isAgg63
  z46 := Tryz.sizeOf63
  v46 := Tryz.zeroValue63
  t53 := Tryz.underlying33
  a53 := Tryz.isAgg33
  z53 := Tryz.sizeOf33
  v53 := Tryz.zeroValue33
  t212 := Tryz.underlying199
  a212 := Tryz.isAgg199
  z212 := Tryz.sizeOf199
  v212 := Tryz.zeroValue199
  g17 := by kernel_rfl
  m17 := by kernel_rfl
  i0 := by kernel_rfl
  i3 := by kernel_rfl
  i4 := by kernel_rfl
  i5 := by kernel_rfl
  i9 := by kernel_rfl
  i46 := by kernel_rfl
  i53 := by kernel_rfl
  i212 := by kernel_rfl }
open Go.Lib in
theorem Tryz.internal_strconv_numDigits (u : Nat) (h1 : 1 ≤ u) (h2 : u < 18446744073709551616) (w : World) (htab : Lib.TabIs Tryz.prog w "internal/strconv.uint64pow10" .u64 Lib.pow10Tab) :
  Calls Tryz.prog 121 #[.int .u64 u] w fun e w' => e = .returned (.int .i64 (Lib.nDigits u))∧w' = w:=Any.internal_strconv_numDigits Tryz.laysM284 u h1 h2 w htab
def Tryz.lays285_ren : Go.Shelf.Ren := ⟨fun | 285 => 122 | n => n, fun | 0 => 0 | 3 => 3 | 4 => 4 | 5 => 5 | 9 => 9 | 37 => 113 | 51 => 200 | 53 => 33 | n => n, fun | n => n⟩
theorem Tryz.lays285 : Go.Proofs.Lays.n285 Tryz.prog Tryz.lays285_ren := {
  mixed := by kernel_rfl
  f285 := Tryz.func122.trans (congrArg some (by kernel_rfl))
  t0 := Tryz.underlying0
  a0 := Tryz.isAgg0
  z0 := Tryz.sizeOf0
  v0 := Tryz.zeroValue0
  t3 := Tryz.underlying3
  a3 := Tryz.isAgg3
  z3 := Tryz.sizeOf3
  v3 := Tryz.zeroValue3
  t4 := Tryz.underlying4
  a4 := Tryz.isAgg4
  z4 := Tryz.sizeOf4
  v4 := Tryz.zeroValue4
  t5 := Tryz.underlying5
  a5 := Tryz.isAgg5
  z5 := Tryz.sizeOf5
  v5 := Tryz.zeroValue5
  t9 := Tryz.underlying9
  a9 := Tryz.isAgg9
  z9 := Tryz.sizeOf9
  v9 := Tryz.zeroValue9
  t37 := Tryz.underlying113
  a37 := Tryz.isAgg113
  z37 := Tryz.sizeOf113
  v37 := Tryz.zeroValue113
  t51 := Tryz.underlying200
  a51 := Tryz.isAgg200
  z51 := Tryz.sizeOf200
  v51 := Tryz.zeroValue200
  t53 := Tryz.underlying33
  a53 := Tryz.isAgg33
  z53 := Tryz.sizeOf33
  v53 := Tryz.zeroValue33 }
open Go.RowKit Go.Sort Go.Lib in
theorem Tryz.internal_strconv_formatBase10 (blk off cap : Nat) (u : Nat) (d : Array UInt8) (w : World) (hH : Holds (fun (b : UInt8) => Value.int .u8 (b.toNat : Int)) w blk off d) (hu : u < 10 ^ d.size) (hu64 : u < 18446744073709551616) (hsz : d.size < 4611686018427387904) :
  Calls Tryz.prog 122 #[.slice (some ⟨blk,off,none⟩) d.size cap,.int .u64 u] w fun e w' =>
   e = .returned (.tuple #[])∧∃ (n v' : Nat) (dk : Array UInt8),w' = (putRow (fun (b : UInt8) => Value.int .u8 (b.toNat : Int)) w blk off dk).drewN n∧FmtInv d.size u 0 v' dk:=Any.internal_strconv_formatBase10 Tryz.lays285 blk off cap u d w hH hu hu64 hsz
def Tryz.lays125_ren : Go.Shelf.Ren := ⟨fun | 125 => 141 | 128 => 156 | 129 => 132 | n => n, fun | 3 => 3 | 4 => 4 | 5 => 5 | 9 => 9 | 46 => 63 | 51 => 200 | 53 => 33 | n => n, fun | n => n⟩
theorem Tryz.lays125 : Go.Proofs.Lays.n125 Tryz.prog Tryz.lays125_ren := {
  mixed := by kernel_rfl
  f125 := Tryz.func141.trans (congrArg some (by kernel_rfl))
  f128 := Tryz.func156.trans (congrArg some (by kernel_rfl))
  f129 := Tryz.func132.trans (congrArg some (by kernel_rfl))
  t3 := Tryz.underlying3
  a3 := Tryz.isAgg3
  z3 := Tryz.sizeOf3
  v3 := Tryz.zeroValue3
  t4 := Tryz.underlying4
  a4 := Tryz.isAgg4
  z4 := Tryz.sizeOf4
  v4 := Tryz.zeroValue4
  t5 := Tryz.underlying5
  a5 := Tryz.isAgg5
  z5 := Tryz.sizeOf5
  v5 := Tryz.zeroValue5
  t9 := Tryz.underlying9
  a9 := Tryz.isAgg9
  z9 := Tryz.sizeOf9
  v9 := Tryz.zeroValue9
  t46 := Tryz.underlying63
  a46 := Tryz.isAgg63
  z46 := Tryz.sizeOf63
  v46 := Tryz.zeroValue63
  t51 := Tryz.underlying200
  a51 := Tryz.isAgg200
  z51 := Tryz.sizeOf200
  v51 := Tryz.zeroValue200
  t53 := Tryz.underlying33
  a53 := Tryz.isAgg33
  z53 := Tryz.sizeOf33
  v53 := Tryz.zeroValue33 }
theorem Tryz.bits_Len (x : Int) (w : World) (h0 : 0 ≤ x) (h1 : x ≤ 18446744073709551615) :
  Calls Tryz.prog 141 #[.int .u64 x] w fun e w' => e = .returned (.int .i64 (Lib.bitLen x.toNat))∧w' = w:=Any.bits_Len Tryz.lays125 x w h0 h1
end Go.Proofs

namespace Go.Proofs.YtndcigdphgojpaaGreatDoor
open Go.RowKit

theorem i64_and1 (a : Nat) (ha : a < 9223372036854775808) : bits .and .i64 (a : Int) 1 = ((a % 2 : Nat) : Int):=by
 have h1 : (BitVec.ofInt 64 (a : Int)).toNat = a:=by
  rw [BitVec.ofInt_natCast,BitVec.toNat_ofNat]; exact Nat.mod_eq_of_lt (by omega)
 have h2 : (BitVec.ofInt 64 (1 : Int)).toNat = 1:=rfl
 show IntKind.i64.wrap ((BitVec.ofInt 64 (a : Int) &&& BitVec.ofInt 64 (1 : Int)).toNat : Int) = _
 rw [BitVec.toNat_and,h1,h2,Nat.and_one_is_mod,IntKind.wrap_i64]
 omega
theorem half_step (n i : Nat) : n / 2 ^ i = 2 * (n / 2 ^ (i + 1)) + n / 2 ^ i % 2:=by
 rw [Nat.pow_succ,← Nat.div_div_eq_div_mul]; omega
theorem pow_even (X n i : Nat) (h : n / 2 ^ i % 2 = 0) : X ^ (n / 2 ^ (i + 1)) * X ^ (n / 2 ^ (i + 1)) = X ^ (n / 2 ^ i):=by
 rw [half_step n i,h,← Nat.pow_add]; congr 1; omega
theorem pow_odd (X n i : Nat) (h : n / 2 ^ i % 2 = 1) : X ^ (n / 2 ^ (i + 1)) * X ^ (n / 2 ^ (i + 1)) * X = X ^ (n / 2 ^ i):=by
 rw [half_step n i,h,← Nat.pow_add,← Nat.pow_succ]; congr 1; omega
theorem lt_bitLen (n : Nat) (h : n < 18446744073709551616) : n < 2 ^ Lib.bitLen n∧Lib.bitLen n ≤ 64:=by
 by_cases h0 : n = 0
 ·subst h0; exact ⟨by decide,by decide⟩
 ·exact ⟨(Lib.bitLenAux_bounds 64 n h h0).2.2,Lib.bitLen_le n 64 (by omega) h⟩

set_option maxHeartbeats 4000000 in
set_option maxRecDepth 100000 in
theorem natPow_any (v : Value) (X n : Nat) (w : World) (hv : Sl .u64 w v (wd 18446744073709551616 X)) (hX : 0 < X) (hn : n < 2147483648) (hl : (wd 18446744073709551616 X).length + (wd 18446744073709551616 (X ^ n)).length < 67108864) :
  Calls Tryz.prog 117 #[v,.int .i64 (n : Int)] w fun e w' => ∃ v',e = .returned v'∧Sl .u64 w' v' (wd 18446744073709551616 (X ^ n))∧But [] w w':=by
 obtain ⟨L,hL⟩ : ∃ L,L = Lib.bitLen n:=⟨_,rfl⟩
 have hb:=lt_bitLen n (by omega)
 have BL:=hide (fun W => Tryz.bits_Len (n : Int) W (by omega) (by omega))
 rw [Int.toNat_natCast,← hL] at BL
 rw [← hL] at hb
 obtain ⟨hb1,hb2⟩:=hb
 have hlen : Hid (∀ i,(wd 18446744073709551616 (X ^ (n / 2 ^ i))).length < 67108864∧(wd 18446744073709551616 X).length + (wd 18446744073709551616 (X ^ (n / 2 ^ i))).length < 67108864):=fun i => by
  have:=wd_len_mono (Nat.pow_le_pow_right hX (Nat.div_le_self n (2 ^ i)))
  omega
 have hlen2 : Hid (∀ i,(wd 18446744073709551616 (X ^ (n / 2 ^ (i + 1)) * X ^ (n / 2 ^ (i + 1)))).length + (wd 18446744073709551616 X).length < 67108864):=fun i => by
  rw [← Nat.pow_add]
  have h3:=half_step n i
  have h4:=Nat.div_le_self n (2 ^ i)
  have:=wd_len_mono (Nat.pow_le_pow_right hX (show n / 2 ^ (i + 1) + n / 2 ^ (i + 1) ≤ n from by omega))
  omega
 have HV:=hide hv
 have hdiv : n / 2 ^ L = 0:=Nat.div_eq_of_lt hb1
 have hst : Hid ((1 : Nat) = X ^ (n / 2 ^ L)):=by show _ = _; rw [hdiv,Nat.pow_zero]
 clear hv hl hdiv hb1 hL
 obtain ⟨xa,xc,rfl,-,-⟩:=unhide HV
 generalize hnx : (wd 18446744073709551616 X).length = nx at *
 have HNX:=hide hnx
 clear hnx
 go_enter Tryz.func117,Tryz.ntmps117
 go_wp2_with fail
 refine (natOf_any 1 (by omega) _).mono ?_
 rintro e w1 ⟨v1,rfl,hv1,hb1,-⟩
 have H1:=hide hv1
 have B1:=hide hb1
 clear hv1 hb1
 go_wp2_with fail
 refine (unhide BL _).mono ?_
 rintro e w2 ⟨rfl,hw⟩
 obtain rfl:=hw.symm
 clear hw
 go_wp2
 go_loopw [5,6] (fun o i wr => ∃ k : Nat,k ≤ L∧i = .int .i64 ((k : Int) - 1)∧Hid (Sl .u64 wr o (wd 18446744073709551616 (X ^ (n / 2 ^ k)))∧But [] w wr)) (fun _ i _ => (intOf i + 1).toNat)
 case atStart => exact ⟨L,Nat.le_refl _,rfl,by rw [← unhide hst]; exact unhide H1,unhide B1⟩
 case round =>
  obtain ⟨k,hk,rfl,HI⟩:=hrel
  rename World => wr
  by_cases hk0 : k = 0
  ·subst hk0
   go_wp2
   go_ret
   have h:=(unhide HI).1
   rw [Nat.pow_zero,Nat.div_one] at h
   exact ⟨_,rfl,h,(unhide HI).2⟩
  ·obtain ⟨i,rfl⟩ : ∃ i,k = i + 1:=⟨k - 1,by omega⟩
   rw [show (((i + 1 : Nat) : Int) - 1) = (i : Int) from by omega]
   have hq : n / 2 ^ i < 9223372036854775808:=by have:=Nat.div_le_self n (2 ^ i); omega
   have E1 : bits .and .i64 ((n : Int) / 2 ^ i) 1 = ((n / 2 ^ i % 2 : Nat) : Int):=by
    have e : (n : Int) / 2 ^ i = ((n / 2 ^ i : Nat) : Int):=by simp
    rw [e,i64_and1 _ hq]
   obtain ⟨a,c,ho⟩ : ∃ a c,u5 = .slice a (wd 18446744073709551616 (X ^ (n / 2 ^ (i + 1)))).length c:=by obtain ⟨a,c,e,-,-⟩:=(unhide HI).1; exact ⟨a,c,e⟩
   have MU:=hide (natMul_any u5 u5 _ _ wr (unhide HI).1 (unhide HI).1 (by have:=(unhide hlen (i + 1)).1; omega))
   have L2:=hide (unhide hlen2 i)
   subst ho
   generalize hm : (wd 18446744073709551616 (X ^ (n / 2 ^ (i + 1)))).length = m at *
   clear hm
   rcases Nat.mod_two_eq_zero_or_one (n / 2 ^ i) with hpar | hpar
   ·have e1 : (((n / 2 ^ i % 2 : Nat) : Int) == 1) = false:=by rw [hpar]; rfl
    have EV:=hide (pow_even X n i hpar)
    generalize n / 2 ^ i % 2 = b at *
    go_wp2_with fail
    refine (unhide MU).mono ?_
    rintro e w3 ⟨v3,rfl,hv3,hb3,-⟩
    rw [unhide EV] at hv3
    have H3:=hide hv3
    have B3 : Hid (But [] w w3):=(unhide HI).2.trans' hb3
    clear hv3 hb3
    go_wp2
    refine ⟨⟨i,by omega,rfl,unhide H3,unhide B3⟩,?_⟩
    simp [intOf]
   ·have e1 : (((n / 2 ^ i % 2 : Nat) : Int) == 1) = true:=by rw [hpar]; rfl
    have EV:=hide (pow_odd X n i hpar)
    generalize n / 2 ^ i % 2 = b at *
    go_wp2_with fail
    refine (unhide MU).mono ?_
    rintro e w3 ⟨v3,rfl,hv3,hb3,-⟩
    have B3 : Hid (But [] w w3):=(unhide HI).2.trans' hb3
    have MX:=hide (natMul_any v3 (.slice xa nx xc) _ X w3 hv3 ((unhide HV).but_nil (unhide B3)) (by rw [unhide HNX]; have:=unhide L2; omega))
    obtain ⟨a3,c3,e3,-,-⟩:=hv3
    subst e3
    clear hb3
    rw [unhide EV] at MX
    generalize (wd 18446744073709551616 (X ^ (n / 2 ^ (i + 1)) * X ^ (n / 2 ^ (i + 1)))).length = m3 at *
    go_wp2_with fail
    refine (unhide MX).mono ?_
    rintro e w4 ⟨v4,rfl,hv4,hb4,-⟩
    have H4:=hide hv4
    have B4 : Hid (But [] w w4):=(unhide B3).trans' hb4
    clear hv4 hb4
    go_wp2
    refine ⟨⟨i,by omega,rfl,unhide H4,unhide B4⟩,?_⟩
    simp [intOf]
end Go.Proofs.YtndcigdphgojpaaGreatDoor

namespace Go.Proofs.YtndcigdphgojpaaGreatDoor
open Go.RowKit

theorem Row.but {k : IntKind} {w w' : World} {g : Nat} {rs : List Nat} {l : List Nat} (h : Row k w g rs) (hb : But l w w') (hn : g ∉ l) : Row k w' g rs:=fun i hi => by
 obtain ⟨h1,h2⟩:=h i hi
 have hl:=lt_of_cell h1
 exact ⟨hb.cell_some h1 hn,(hb.frozen hl hn).trans h2⟩

set_option maxHeartbeats 2000000 in
set_option maxRecDepth 100000 in
theorem reverse_any (g cap : Nat) (bs : List Nat) (w : World) (hr : Row .u8 w g bs) (h0 : 0 < bs.length) (hl : bs.length < 1073741824) :
  Calls Tryz.prog 149 #[.slice (some ⟨g,0,none⟩) bs.length cap] w fun e w' => e = .returned (.tuple #[])∧Row .u8 w' g bs.reverse∧But [g] w w':=by
 have mixed : Tryz.prog.follows .mixedOrders = true:=by kernel_rfl
 have HR:=hide hr
 clear hr
 obtain ⟨n,hn⟩ : ∃ n,n = bs.length:=⟨_,rfl⟩
 rw [← hn] at h0 hl ⊢
 have HN:=hide hn
 clear hn
 go_enter Tryz.func149,Tryz.ntmps149
 go_wp2
 go_loopw [2,3] (fun i j wq => ∃ (k q : Nat) (cs : List Nat),i = .int .i64 k∧j = .int .i64 q∧k ≤ q + 1∧Hid (k + q + 1 = n∧RevInv bs cs k∧Row .u8 wq g cs∧But [g] w wq)) (fun i _ _ => n - (intOf i).toNat)
 case atStart => exact ⟨0,n - 1,bs,rfl,by congr 1; omega,by omega,by omega,RevInv.start _,unhide HR,But.refl _ _⟩
 case round =>
  obtain ⟨k,q,cs,rfl,rfl,hkq,HJ⟩:=hrel
  rename World => wq
  have hcl : cs.length = n:=by rw [(unhide HJ).2.1.len,unhide HN]
  have hsum:=(unhide HJ).1
  by_cases hlt : k < q
  ·obtain ⟨ck,fk⟩:=(unhide HJ).2.2.1 k (by omega)
   obtain ⟨cq,fq⟩:=(unhide HJ).2.2.1 q (by omega)
   have ST:=hide ((unhide HJ).2.1.step (by rw [← unhide HN]; omega))
   have hq : q = n - 1 - k:=by omega
   rw [← unhide HN,← hq] at ST
   have HC:=hide hcl
   have HS:=hide hsum
   have ne1 : k ≠ q:=by omega
   have hk1 : k < n:=by omega
   have hq1 : q < n:=by omega
   clear hcl hsum hq
   generalize hx : cs[k]?.getD 0 = x at *
   generalize hy : cs[q]?.getD 0 = y at *
   clear hx hy
   go_wp2_with fail
   go_region_o
   go_wp2
   refine ⟨⟨k + 1,q - 1,(cs.set k y).set q x,by go_num,by rw [Int.ofNat_sub (by omega)]; rfl,by omega,by have:=unhide HS; omega,unhide ST,?_,?_⟩,?_⟩
   ·exact (((unhide HJ).2.2.1.set k (by rw [unhide HC]; have:=unhide HS; omega) y).set q (by rw [List.length_set,unhide HC]; have:=unhide HS; omega) x).but ((But.refl [] _).drew) (by simp)
   ·exact (((unhide HJ).2.2.2.setCell (p:=⟨g,k,none⟩) (.inl (by simp)) (.int .u8 (y : Int))).setCell (p:=⟨g,q,none⟩) (.inl (by simp)) (.int .u8 (x : Int))).drew
   ·have:=unhide HS
    simp [intOf]; omega
  ·have hfin : cs = bs.reverse:=(unhide HJ).2.1.fin (by rw [← unhide HN]; omega)
   have HF:=hide hfin
   clear hfin hcl hsum
   go_wp2
   go_end0
   exact ⟨rfl,by rw [← unhide HF]; exact (unhide HJ).2.2.1,(unhide HJ).2.2.2⟩
end Go.Proofs.YtndcigdphgojpaaGreatDoor

namespace Go.Proofs.YtndcigdphgojpaaGreatDoor
open Go.RowKit

theorem ten608 : (10 : Nat) ^ 608 < 18446744073709551616 ^ 33:=by decide +kernel

end Go.Proofs.YtndcigdphgojpaaGreatDoor

namespace Go.Proofs.YtndcigdphgojpaaGreatDoor
open Go.RowKit

theorem append_byte (w : World) (base : Nat) (v : Value) (ds : List UInt8) (hown : w.ownsRow base 5 1 v ds.length (ds.map u8v)) (a : Addr) (d : UInt8) (hc : w.cell? a = some (u8v d)) (hl : ds.length < 1073741824) (hb : base ≤ w.heap.size) :
  ∃ v' w',(Builtin.append_ #[113,113] 113 #[v,.slice (some a) 1 1]).run Tryz.prog w = .ok v' w'∧w'.ownsRow base 5 1 v' (ds ++ [d]).length ((ds ++ [d]).map u8v)∧w.grownBy w' v.ownBlock∧(v'.ownBlock = v.ownBlock ∨ ∀ k,v'.ownBlock = some k→w.heap.size ≤ k):=by
 obtain ⟨i0,hi,hz0,hz1,hz2⟩:=info_u8
 have hnews : ∀ j u,[u8v d][j]? = some u→w.cell? (a.add j) = some u:=fun j u hj => by
  cases j with
  | zero => simp at hj; subst hj; rw [show a.add 0 = a from by simp [Addr.add]]; exact hc
  | succ j => simp at hj
 have h1 : ∀ u ∈ [u8v d],u.oneCell' = true:=fun u hu => by simp at hu; subst hu; rfl
 have hrun:=fun (base : Nat) (ho : w.ownsRow base 5 1 v ds.length (ds.map u8v)) (hb : base ≤ w.heap.size) => run_append_own (P:=Tryz.prog) w base 113 113 5 i0 (.int .u8 0) 1 1 Tryz.underlying113 hi hz0 hz1 hz2 rfl (by decide) v ds.length (ds.map u8v) ho a 1 1 [u8v d] rfl hnews h1 (by unfold maxLen; omega) (by omega) hb
 obtain ⟨v',w',hr,ho',hg',-⟩:=hrun base hown hb
 refine ⟨v',w',hr,by rw [List.length_append,List.map_append]; exact ho',hg',?_⟩
 rcases hown.2 with ⟨rfl,-⟩ | ⟨g,cap,cur,rfl,-,hgc,hnc,hcm,hcs,htake⟩
 ·have hd : ds = []:=by
   obtain ⟨hx,hy | ⟨g,cap,cur,e,-⟩⟩:=hown
   ·exact List.eq_nil_of_length_eq_zero hy.2
   ·simp at e
  subst hd
  obtain ⟨v2,w2,hr2,ho2,-,-⟩:=hrun w.heap.size (World.ownsRow_nil _ _ _ _) (Nat.le_refl _)
  rw [hr] at hr2
  simp only [Result.ok.injEq] at hr2
  obtain ⟨rfl,rfl⟩:=hr2
  exact .inr fun k hk => (ho2.lt k hk).1
 ·by_cases hroom : ds.length + 1 ≤ cap
  ·have h2:=run_append_room (P:=Tryz.prog) w 113 113 5 i0 Tryz.underlying113 hi g ds.length cap cur hgc a 1 1 [u8v d] (by rw [hz1]; rfl) hnews h1 hroom (by rw [hz1,hcs]; simp; omega)
   rw [hr] at h2
   simp only [Result.ok.injEq] at h2
   rw [h2.1]
   exact .inl rfl
  ·have h2:=run_append_grow (P:=Tryz.prog) w 113 113 5 i0 (.int .u8 0) Tryz.underlying113 hi hz0 ⟨g,0,none⟩ ds.length cap (ds.map u8v) (by rw [hz1]; simp) (hown.cells rfl) a 1 1 [u8v d] (by rw [hz1]; rfl) hnews (by omega) (by omega) (growslice_fits (by omega) (by rw [hz2]; omega))
   rw [hr] at h2
   simp only [Result.ok.injEq] at h2
   rw [h2.1]
   refine .inr fun k hk => ?_
   simp only [Value.ownBlock,Option.some.injEq] at hk
   omega
end Go.Proofs.YtndcigdphgojpaaGreatDoor

namespace Go.Proofs.YtndcigdphgojpaaGreatDoor
open Go.RowKit

/-- ten to the power of 608, squared so often -/
def tenP (j : Nat) : Nat:=10 ^ (608 * 2 ^ j)
theorem tenP_zero : tenP 0 = 10 ^ 608:=by unfold tenP; rw [Nat.pow_zero,Nat.mul_one]
theorem tenP_succ (j : Nat) : tenP (j + 1) = tenP j * tenP j:=by
 unfold tenP
 rw [← Nat.pow_add,Nat.pow_succ,← Nat.mul_two,Nat.mul_assoc]
theorem tenP_pos (j : Nat) : 0 < tenP j:=Nat.pow_pos (by omega)
theorem tenP_gt (j : Nat) : j < tenP j:=by
 unfold tenP
 have h1 : j < 2 ^ j:=Nat.lt_two_pow_self
 have h2 : 608 * 2 ^ j < 10 ^ (608 * 2 ^ j):=Nat.lt_pow_self (by omega)
 omega
/-- how great the powers below a number of so many words are -/
theorem tenP_below (X j n : Nat) (hl : (wd 18446744073709551616 X).length ≤ n) (h : tenP j ≤ X) : 1824 * 2 ^ j < 64 * n:=by
 have h1 : X < 18446744073709551616 ^ n:=lt_of_wd_length (by omega) X _ hl
 have h2 : (2 : Nat) ^ (1824 * 2 ^ j) ≤ tenP j:=by
  unfold tenP
  have e : (2 : Nat) ^ (1824 * 2 ^ j) = (2 ^ 3) ^ (608 * 2 ^ j):=by rw [← Nat.pow_mul,← Nat.mul_assoc]
  rw [e]
  exact Nat.pow_le_pow_left (by omega) _
 have h3 : (18446744073709551616 : Nat) ^ n = 2 ^ (64 * n):=by rw [Nat.pow_mul]
 rw [h3] at h1
 have h4 : (2 : Nat) ^ (1824 * 2 ^ j) < 2 ^ (64 * n):=Nat.lt_of_le_of_lt h2 (Nat.lt_of_le_of_lt h h1)
 exact (Nat.pow_lt_pow_iff_right (by omega : 1 < 2)).1 h4
theorem info_nat : ∃ i,Tryz.prog.info? 71 = some i∧i.zero = some (.slice none 0 0)∧i.size = 1∧i.bytes = 24:=by
 have h : (Tryz.prog.info? 71).map (fun i => (i.zero,i.size,i.bytes)) = some (some (.slice none 0 0),1,24):=by kernel_rfl
 obtain ⟨i,hi,he⟩:=Option.map_eq_some_iff.1 h
 simp only [Prod.mk.injEq] at he
 exact ⟨i,hi,he.1,he.2.1,he.2.2⟩
/-- rows of words stay where a row of other things grows -/
theorem keep_grown_of {w w' : World} {base : Nat} {e : TypeId} {vo : Value} {n : Nat} {xs : List Value} (ho : w.ownsRow base e 1 vo n xs) (hn : vo = .slice none 0 0 ∨ ∃ u,xs[0]? = some u∧∀ m : Int,u ≠ .int .u64 m) (hg : w.grownBy w' vo.ownBlock) : Keep64 w w':=by
 intro v ws hs
 cases hb : vo.ownBlock with
 | none => rw [hb] at hg; exact hs.but_nil (grown_but_none hg)
 | some g =>
  rw [hb] at hg
  rcases hn with rfl | ⟨u,hu,hne⟩
  ·simp [Value.ownBlock] at hb
  ·have hc:=ho.cells hb 0 u hu
   rw [show (⟨g,0,none⟩ : Addr).add 0 = ⟨g,0,none⟩ from by simp [Addr.add]] at hc
   exact hs.over (grown_but hg) hc hne

/-- what holds of the powers found -/
structure PowAt (w : World) (X : Nat) (us : List Value) (vo vp : Value) (wr : World) : Prop where
 own : wr.ownsRow w.heap.size 71 1 vo us.length us
 all : ∀ j u,us[j]? = some u→Sl .u64 wr u (wd 18446744073709551616 (tenP j))
 pow : Sl .u64 wr vp (wd 18446744073709551616 (tenP us.length))
 but : But [] w wr
 low : ∀ j,j < us.length→tenP j ≤ X
 nil : vo = .slice none 0 0 ∨ 0 < us.length
theorem PowAt.le {w : World} {X : Nat} {us : List Value} {vo vp : Value} {wr : World} (h : PowAt w X us vo vp wr) : us.length ≤ X:=by
 rcases Nat.eq_zero_or_pos us.length with h0 | h0
 ·omega
 ·have h1:=h.low (us.length - 1) (by omega)
  have h2:=tenP_gt (us.length - 1)
  omega
theorem PowAt.first {w : World} {X : Nat} {us : List Value} {vo vp : Value} {wr : World} (h : PowAt w X us vo vp wr) : vo = .slice none 0 0 ∨ ∃ u,us[0]? = some u∧∀ m : Int,u ≠ .int .u64 m:=by
 rcases h.nil with h0 | h0
 ·exact .inl h0
 ·refine .inr ⟨us[0],List.getElem?_eq_getElem h0,fun m e => ?_⟩
  have:=h.all 0 us[0] (List.getElem?_eq_getElem h0)
  rw [e] at this
  obtain ⟨a,c,h1,-⟩:=this
  simp at h1
theorem PowAt.drewN {w : World} {X : Nat} {us : List Value} {vo vp : Value} {wr : World} (h : PowAt w X us vo vp wr) (q : Nat) : PowAt w X us vo vp (wr.drewN q) :=
 ⟨owns_but h.own ((But.refl [] _).drewN q),fun j u hj => (h.all j u hj).but_nil ((But.refl [] _).drewN q),h.pow.but_nil ((But.refl [] _).drewN q),h.but.drewN q,h.low,h.nil⟩
theorem PowAt.plen {w : World} {X : Nat} {us : List Value} {vo vp : Value} {wr : World} (h : PowAt w X us vo vp wr) : (wd 18446744073709551616 (tenP us.length)).length ≤ (wd 18446744073709551616 X).length + (wd 18446744073709551616 X).length + 33:=by
 rcases Nat.eq_zero_or_pos us.length with h0 | h0
 ·rw [h0,tenP_zero]
  have:=wd_length_le (B:=18446744073709551616) (by omega) _ _ ten608
  omega
 ·obtain ⟨j,hj⟩ : ∃ j,us.length = j + 1:=⟨us.length - 1,by omega⟩
  have h1:=wd_len_mono (h.low j (by omega))
  have h2:=wd_len_mul (tenP j) (tenP j)
  rw [hj,tenP_succ]
  omega

/-- a power more in the row -/
theorem PowAt.more {w : World} {X : Nat} {us : List Value} {vo vp : Value} {wr : World} (h : PowAt w X us vo vp wr) (hle : tenP us.length ≤ X) (hul : us.length < 35088) (W : World) (hW : W = wr.alloc (.cells #[vp] 71)) :
  ∃ v3 w3,(Builtin.append_ #[143,143] 143 #[vo,.slice (some ⟨wr.heap.size,0,none⟩) 1 1]).run Tryz.prog W = .ok v3 w3∧w3.ownsRow w.heap.size 71 1 v3 (us ++ [vp]).length (us ++ [vp])∧(∀ j u,(us ++ [vp])[j]? = some u→Sl .u64 w3 u (wd 18446744073709551616 (tenP j)))∧Sl .u64 w3 vp (wd 18446744073709551616 (tenP us.length))∧But [] w w3∧(∀ j,j < (us ++ [vp]).length→tenP j ≤ X)∧Keep64 wr w3:=by
 obtain ⟨i0,hi,hz0,hz1,hz2⟩:=info_nat
 subst hW
 have hp1 : vp.oneCell' = true:=by
  obtain ⟨a,c,rfl,-⟩:=h.pow
  rfl
 have hc : (wr.alloc (.cells #[vp] 71)).cell? ⟨wr.heap.size,0,none⟩ = some vp:=by simp
 have hbs:=h.but.size
 obtain ⟨v3,w3,hr,ho,hg,-⟩:=run_append_own (P:=Tryz.prog) (wr.alloc (.cells #[vp] 71)) w.heap.size 143 143 71 i0 (.slice none 0 0) 1 24 Tryz.underlying143 hi hz0 hz1 hz2 rfl (by decide) vo us.length us (h.own.alloc _) ⟨wr.heap.size,0,none⟩ 1 1 [vp] rfl (fun j u hj => by
  cases j with
  | zero => simp at hj; subst hj; rw [show (⟨wr.heap.size,0,none⟩ : Addr).add 0 = ⟨wr.heap.size,0,none⟩ from by simp [Addr.add]]; exact hc
  | succ j => simp at hj) (fun u hu => by simp at hu; subst hu; exact hp1) (by unfold maxLen; omega) (by omega) (by simp; omega)
 have hK : Keep64 wr w3:=(Keep64.of_but ((But.refl [] wr).alloc _)).trans (keep_grown_of (h.own.alloc _) h.first hg)
 refine ⟨v3,w3,hr,by rw [List.length_append]; exact ho,fun j u hj => ?_,hK _ _ h.pow,(h.but.alloc _).grown hg (fun k hk => (h.own.lt k hk).1),fun j hj => ?_,hK⟩
 ·rcases Nat.lt_or_ge j us.length with hl | hl
  ·rw [List.getElem?_append_left hl] at hj
   exact hK _ _ (h.all j u hj)
  ·have he : j = us.length:=by
    have:=(List.getElem?_eq_some_iff.1 hj).1
    simp at this
    omega
   subst he
   simp at hj
   subst hj
   exact hK _ _ h.pow
 ·simp at hj
  rcases Nat.lt_or_ge j us.length with hl | hl
  ·exact h.low j hl
  ·rw [show j = us.length from by omega]; exact hle

set_option maxHeartbeats 4000000 in
set_option maxRecDepth 100000 in
theorem powersFor_any (v : Value) (X : Nat) (w : World) (hv : Sl .u64 w v (wd 18446744073709551616 X)) (hl : (wd 18446744073709551616 X).length ≤ 1000000) :
  Calls Tryz.prog 91 #[v] w fun e w' => ∃ vo us,e = .returned vo∧w'.ownsRow w.heap.size 71 1 vo us.length us∧(∀ j u,us[j]? = some u→Sl .u64 w' u (wd 18446744073709551616 (tenP j)))∧But [] w w'∧(∀ j,j < us.length→tenP j ≤ X)∧X < tenP us.length:=by
 have h10 : (wd 18446744073709551616 (10 ^ 608)).length ≤ 33:=wd_length_le (by omega) _ _ ten608
 have h1 : (wd 18446744073709551616 10).length ≤ 1:=wd_length_le (by omega) _ _ (by omega)
 have PW : Hid (∀ (v1 : Value) (W : World),Sl .u64 W v1 (wd 18446744073709551616 10)→Calls Tryz.prog 117 #[v1,.int .i64 608] W fun e w' => ∃ v',e = .returned v'∧Sl .u64 w' v' (wd 18446744073709551616 (tenP 0))∧But [] W w'):=fun v1 W h => by
  rw [tenP_zero]
  exact natPow_any v1 10 608 W h (by omega) (by omega) (Nat.lt_of_le_of_lt (Nat.add_le_add h1 h10) (by omega))
 have HV:=hide hv
 have HLX:=hide hl
 clear hv h10 h1 hl
 obtain ⟨xa,xc,rfl,-,-⟩:=unhide HV
 generalize hnx : (wd 18446744073709551616 X).length = nx at *
 have NX:=hide hnx
 clear hnx
 go_enter Tryz.func91,Tryz.ntmps91
 go_wp2_with fail
 refine (natOf_any 10 (by omega) _).mono ?_
 rintro e w1 ⟨v1,rfl,hv1,hb1,-⟩
 have H1:=hide hv1
 have B1:=hide hb1
 clear hv1 hb1
 go_wp2_with fail
 refine (unhide PW v1 _ (unhide H1)).mono ?_
 rintro e w2 ⟨v2,rfl,hv2,hb2⟩
 have A0 : Hid (∃ us,PowAt w X us (.slice none 0 0) v2 w2∧X + 1 + us.length = X + 1 ):=⟨[],⟨World.ownsRow_nil _ _ _ _,fun j u h => by simp at h,hv2,(unhide B1).trans' hb2,fun j h => by simp at h,.inl rfl⟩,by simp⟩
 clear hv2 hb2 B1 H1 PW
 go_wp2_with fail
 go_loopg [3,4] (X + 1) (fun k vo vp wr => Hid (∃ us,PowAt w X us vo vp wr∧k + us.length = X + 1))
 case atStart => exact A0
 case round =>
  clear A0
  obtain ⟨us,hI,hk⟩:=unhide hrel
  clear hrel
  rename World => wr
  obtain ⟨oa,oc,hoe⟩:=owns_shape hI.own
  have hpl:=hI.plen
  rw [unhide NX] at hpl
  have hlx:=unhide HLX
  have CM:=hide (natCmp_any _ _ (tenP us.length) X wr hI.pow ((unhide HV).but_nil hI.but) (by omega) (by rw [unhide NX]; omega))
  obtain ⟨pa,pc,hpe,-,-⟩:=id hI.pow
  rcases Nat.lt_or_ge X (tenP us.length) with hlt | hge
  ·have hc : cmpN (tenP us.length) X = 1:=by
    rcases cmpN_cases (tenP us.length) X with ⟨h,-⟩ | ⟨h,-⟩ | ⟨-,h⟩
    ·omega
    ·omega
    ·exact h
   rw [hc] at CM
   have FIN:=hide (And.intro hI (And.intro hlt hoe))
   subst hoe hpe
   clear hI hpl hlt hc hk
   generalize (wd 18446744073709551616 (tenP us.length)).length = np at *
   go_wp2_with fail
   refine (unhide CM).mono ?_
   rintro e w3 ⟨rfl,q,rfl⟩
   go_wp2
   go_ret
   exact ⟨_,us,rfl,(unhide FIN).1.own,(unhide FIN).1.all,(unhide FIN).1.but.drewN q,(unhide FIN).1.low,(unhide FIN).2.1⟩
  ·have hc : cmpN (tenP us.length) X ≤ 0:=by
    rcases cmpN_cases (tenP us.length) X with ⟨-,h⟩ | ⟨-,h⟩ | ⟨h,-⟩
    ·omega
    ·omega
    ·omega
   generalize cmpN (tenP us.length) X = r at *
   have hr : decide (r ≤ 0) = true:=by simp; omega
   have hL : us.length ≤ X:=hI.le
   have h35:=tenP_below X us.length nx (by rw [unhide NX]; exact Nat.le_refl _) hge
   have hul : us.length < 35088:=Nat.lt_trans Nat.lt_two_pow_self (by omega)
   have HI:=hide hI
   have HR:=hide (And.intro hk (And.intro hL hge))
   obtain ⟨np,hnp⟩ : ∃ np,np = (wd 18446744073709551616 (tenP us.length)).length:=⟨_,rfl⟩
   have NP:=hide hnp
   rw [← hnp] at hpe hpl
   have hnp0 : 0 < np:=by
    rw [hnp,Nat.pos_iff_ne_zero]; intro e; rw [wd_len_zero (by omega)] at e
    have:=tenP_pos us.length
    omega
   have MO:=hide (fun q => (hI.drewN q).more hge hul _ rfl)
   have MU:=hide (fun W (h : Sl .u64 W u4 (wd 18446744073709551616 (tenP us.length))) => natMul_any u4 u4 _ _ W h h (by rw [← hnp]; omega))
   rw [← tenP_succ] at MU
   clear hI hk hL hge h35 hnp hc
   have SH:=hide hoe
   generalize us.length = L at hoe hul
   subst hoe hpe
   have hmul : wrap64 (2 * (np : Int)) = 2 * (np : Int):=by unfold wrap64; omega
   go_wp2_with fail
   refine (unhide CM).mono ?_
   rintro e w3 ⟨rfl,q,rfl⟩
   obtain ⟨v3,w3,hr3,ho3,ha3,hs3,hb3,hl3,hk3⟩:=unhide MO q
   have HR3:=hide hr3
   have AL:=hide (And.intro ho3 (And.intro ha3 (And.intro hs3 (And.intro hb3 hl3))))
   clear hr3 ho3 ha3 hs3 hb3 hl3 hk3 MO
   by_cases hbr : nx < 2 * np - 1
   ·have hbi : (nx : Int) < 2 * (np : Int) - 1:=by omega
    have FIN : Hid (X < tenP (us ++ [Value.slice pa np pc]).length):=by
     have h1 : X < 18446744073709551616 ^ nx:=lt_of_wd_length (by omega) X _ (Nat.le_of_eq (unhide NX))
     have h2 : 18446744073709551616 ^ (np - 1) ≤ tenP us.length:=by
      rcases Nat.lt_or_ge (tenP us.length) (18446744073709551616 ^ (np - 1)) with h | h
      ·have:=wd_length_le (B:=18446744073709551616) (by omega) _ _ h
       rw [← unhide NP] at this
       omega
      ·exact h
     show _ < _
     rw [List.length_append,List.length_singleton,tenP_succ]
     refine Nat.lt_of_lt_of_le h1 (Nat.le_trans ?_ (Nat.mul_le_mul h2 h2))
     rw [← Nat.pow_add]
     exact Nat.pow_le_pow_right (by omega) (by omega)
    clear HI MU CM HR NP SH
    go_wp2_with (at_builtin; refine wpList_app rfl _ _ 143 143 rfl _ _ v3 w3 rfl rfl (unhide HR3) ?_)
    go_ret
    exact ⟨v3,_,rfl,(unhide AL).1,(unhide AL).2.1,(unhide AL).2.2.2.1,(unhide AL).2.2.2.2,unhide FIN⟩
   ·have hbi : ¬ ((nx : Int) < 2 * (np : Int) - 1):=by omega
    clear CM
    go_wp2_with (at_builtin; refine wpList_app rfl _ _ 143 143 rfl _ _ v3 w3 rfl rfl (unhide HR3) ?_)
    go_wp2_with fail
    refine (unhide MU _ (unhide AL).2.2.1).mono ?_
    rintro e w4 ⟨v4,rfl,hv4,hb4,-⟩
    have R : Hid (∃ us',PowAt w X us' v3 v4 w4∧gk - 1 + us'.length = X + 1):=by
     refine ⟨_,⟨owns_but (unhide AL).1 hb4,fun j u hj => ((unhide AL).2.1 j u hj).but_nil hb4,?_,(unhide AL).2.2.2.1.trans' hb4,(unhide AL).2.2.2.2,.inr (by simp)⟩,?_⟩
     ·rw [List.length_append,List.length_singleton]; exact hv4
     ·have:=unhide HR
      rw [List.length_append,List.length_singleton]
      omega
    have GK : Hid (0 < gk):=by have:=unhide HR; show _ < _; omega
    clear hv4 hb4 AL HI HR MU NP
    go_wp2
    go_roundg (gk - 1)
    case measure => have:=unhide GK; omega
    case rel => exact unhide R
end Go.Proofs.YtndcigdphgojpaaGreatDoor
