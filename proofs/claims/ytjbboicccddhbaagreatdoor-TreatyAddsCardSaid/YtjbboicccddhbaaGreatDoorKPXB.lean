/- Which texts may be names, as the Go text of package table tells it. -/
import Derived.Lib.ConvBytes
import Derived.Test.YtjbboicccddhbaaGreatDoorKPF13
namespace Go.Proofs.YtjbboicccddhbaaGreatDoor
open Go.RowKit

def okB (b : Nat) : Prop:=(97 ≤ b∧b ≤ 122) ∨ (48 ≤ b∧b ≤ 57) ∨ b = 45
/-- a name: small letters, digits and lines, from 1 to 20 -/
def NameIs (s : ByteArray) : Prop:=(∀ j,j < s.size→okB (s.data.toList.getD j 0).toNat)∧1 ≤ s.size∧s.size ≤ 20
theorem but_bytes (w : World) (e : TypeId) (s : ByteArray) : But [] w (Lib.bytesWorld w e s) :=
 ⟨rfl,rfl,rfl,by rw [Lib.bytesWorld_size]; omega,fun k hk _ => Lib.bytesWorld_at_old w e s k hk⟩
set_option maxHeartbeats 8000000 in
set_option maxRecDepth 100000 in
theorem tableName_yes (s : ByteArray) (w : World) (hs : NameIs s) :
  Calls Tryz.prog 163 #[.string s] w fun e w' => e = .returned (.bool true)∧But [] w w':=by
 obtain ⟨hall,h1,h2⟩:=hs
 have hcv:=Lib.run_convert_string_bytes (P:=Tryz.prog) w 9 123 5 s Tryz.underlying9 Tryz.underlying123 Tryz.underlying5
 have HC : Hid (∀ j,j < s.size→(Lib.bytesWorld w 5 s).cell? ⟨w.heap.size,j,none⟩ = some (.int .u8 (s.data.toList.getD j 0).toNat)):=fun j hj => Lib.bytesWorld_cell w 5 s j hj
 have HB:=hide (but_bytes w 5 s)
 have HA:=hide hall
 generalize Lib.bytesWorld w 5 s = V at *
 generalize grownCap w s.size 0 5 = gc at *
 generalize hn : s.size = n at *
 generalize w.heap.size = g at HC hcv
 clear hall
 go_enter Tryz.func163,Tryz.ntmps163
 go_wp2
 go_loopw [8] (fun i wr => ∃ k : Nat,k ≤ n∧i = .int .i64 (k : Int)∧wr = V) (fun i _ => n - (intOf i).toNat)
 case atStart => exact ⟨0,Nat.zero_le _,rfl,rfl⟩
 case round =>
  obtain ⟨k,hk,rfl,rfl⟩:=hrel
  by_cases hlt : k < n
  ·have c0:=unhide HC k hlt
   have ho:=unhide HA k hlt
   generalize (s.data.toList.getD k 0).toNat = b at *
   unfold okB at ho
   rcases ho with ⟨o1,o2⟩ | ⟨o1,o2⟩ | rfl
   ·go_wp2
    all_goals exact ⟨⟨k + 1,by omega,by go_num,by first | trivial | rfl⟩,by simp [intOf]; omega⟩
   ·go_wp2
    all_goals exact ⟨⟨k + 1,by omega,by go_num,by first | trivial | rfl⟩,by simp [intOf]; omega⟩
   ·go_wp2
    all_goals exact ⟨⟨k + 1,by omega,by go_num,by first | trivial | rfl⟩,by simp [intOf]; omega⟩
  ·obtain rfl : k = n:=by omega
   have hsz : (s.size : Int) = (k : Int):=by omega
   go_wp2
   all_goals exact bodyPost_ret (v:=.bool true) (by simp [results,Tryz.results163,go_sem]; omega) rfl ⟨rfl,unhide HB⟩
set_option maxHeartbeats 8000000 in
set_option maxRecDepth 100000 in
theorem tableName_no (s : ByteArray) (w : World) (hs : ¬ NameIs s) (hbig : s.size < 9223372036854775808) :
  Calls Tryz.prog 163 #[.string s] w fun e w' => e = .returned (.bool false)∧But [] w w':=by
 have hcv:=Lib.run_convert_string_bytes (P:=Tryz.prog) w 9 123 5 s Tryz.underlying9 Tryz.underlying123 Tryz.underlying5
 have HC : Hid (∀ j,j < s.size→(Lib.bytesWorld w 5 s).cell? ⟨w.heap.size,j,none⟩ = some (.int .u8 (s.data.toList.getD j 0).toNat)):=fun j hj => Lib.bytesWorld_cell w 5 s j hj
 have HB:=hide (but_bytes w 5 s)
 have HS:=hide hs
 generalize Lib.bytesWorld w 5 s = V at *
 generalize grownCap w s.size 0 5 = gc at *
 generalize hn : s.size = n at *
 generalize w.heap.size = g at HC hcv
 clear hs
 go_enter Tryz.func163,Tryz.ntmps163
 go_wp2
 go_loopw [8] (fun i wr => ∃ k : Nat,k ≤ n∧i = .int .i64 (k : Int)∧Hid (∀ j,j < k→okB (s.data.toList.getD j 0).toNat)∧wr = V) (fun i _ => n - (intOf i).toNat)
 case atStart => exact ⟨0,Nat.zero_le _,rfl,fun j hj => absurd hj (by omega),rfl⟩
 case round =>
  obtain ⟨k,hk,rfl,HO,rfl⟩:=hrel
  by_cases hlt : k < n
  ·have c0:=unhide HC k hlt
   have HN : okB (s.data.toList.getD k 0).toNat→Hid (∀ j,j < k + 1→okB (s.data.toList.getD j 0).toNat):=fun hk1 j hj => by
    rcases Nat.lt_or_ge j k with h | h
    ·exact unhide HO j h
    ·obtain rfl : j = k:=by omega
     exact hk1
   have HNN:=hide HN
   clear HN
   have hb256 : (s.data.toList.getD k 0).toNat < 256:=(s.data.toList.getD k 0).toNat_lt
   generalize (s.data.toList.getD k 0).toNat = b at *
   by_cases ho : okB b
   ·have HN:=unhide HNN ho
    clear HNN
    unfold okB at ho
    rcases ho with ⟨o1,o2⟩ | ⟨o1,o2⟩ | rfl
    ·go_wp2
     all_goals exact ⟨⟨k + 1,by omega,by go_num,unhide HN,by first | trivial | rfl⟩,by simp [intOf]; omega⟩
    ·go_wp2
     all_goals exact ⟨⟨k + 1,by omega,by go_num,unhide HN,by first | trivial | rfl⟩,by simp [intOf]; omega⟩
    ·go_wp2
     all_goals exact ⟨⟨k + 1,by omega,by go_num,unhide HN,by first | trivial | rfl⟩,by simp [intOf]; omega⟩
   ·clear HNN
    unfold okB at ho
    have hc : b < 45 ∨ (45 < b∧b < 48) ∨ (57 < b∧b < 97) ∨ 122 < b:=by omega
    rcases hc with c | ⟨c,c'⟩ | ⟨c,c'⟩ | c
    ·clear ho
     have h45 : ((b : Int) == 45) = false:=beq_eq_false_iff_ne.2 (by omega)
     go_wp2
     all_goals first | (go_ret; exact ⟨rfl,unhide HB⟩) | (exfalso; omega)
    ·clear ho
     have h45 : ((b : Int) == 45) = false:=beq_eq_false_iff_ne.2 (by omega)
     go_wp2
     all_goals first | (go_ret; exact ⟨rfl,unhide HB⟩) | (exfalso; omega)
    ·clear ho
     have h45 : ((b : Int) == 45) = false:=beq_eq_false_iff_ne.2 (by omega)
     have f57 : ¬ (b : Int) ≤ 57:=by omega
     have f97 : ¬ (97 : Int) ≤ (b : Int):=by omega
     have f48 : (48 : Int) ≤ (b : Int):=by omega
     go_wp2
     all_goals first | (go_ret; exact ⟨rfl,unhide HB⟩) | (exfalso; omega)
    ·clear ho
     have h45 : ((b : Int) == 45) = false:=beq_eq_false_iff_ne.2 (by omega)
     have f57 : ¬ (b : Int) ≤ 57:=by omega
     have f122 : ¬ (b : Int) ≤ 122:=by omega
     have f97 : (97 : Int) ≤ (b : Int):=by omega
     have f48 : (48 : Int) ≤ (b : Int):=by omega
     go_wp2
     all_goals first | (go_ret; exact ⟨rfl,unhide HB⟩) | (exfalso; omega)
  ·obtain rfl : k = n:=by omega
   have hbad : k < 1 ∨ 20 < k:=by
    rcases Nat.lt_or_ge k 1 with h | h
    ·exact .inl h
    ·rcases Nat.lt_or_ge 20 k with h2 | h2
     ·exact .inr h2
     ·exact absurd ⟨by rw [hn]; exact unhide HO,by omega,by omega⟩ (unhide HS)
   have hsz : (s.size : Int) = (k : Int):=by omega
   rcases hbad with h | h
   ·go_wp2
    all_goals exact bodyPost_ret (v:=.bool false) (by simp [results,Tryz.results163,go_sem]; try omega) rfl ⟨rfl,unhide HB⟩
   ·go_wp2
    all_goals exact bodyPost_ret (v:=.bool false) (by simp [results,Tryz.results163,go_sem]; try omega) rfl ⟨rfl,unhide HB⟩
end Go.Proofs.YtjbboicccddhbaaGreatDoor

namespace Go.Proofs.YtjbboicccddhbaaGreatDoor
open Go.RowKit

theorem odd_word (X : Nat) (h : 0 < X) : (wd 18446744073709551616 X)[0]?.getD 0 % 2 = X % 2:=by
 rw [wd_pos (by omega) h]
 simp only [List.getElem?_cons_zero,Option.getD_some]
 omega

set_option maxHeartbeats 1000000 in
set_option maxRecDepth 100000 in
theorem natOdd_any (v : Value) (X : Nat) (w : World) (hv : Sl .u64 w v (wd 18446744073709551616 X)) (hl : (wd 18446744073709551616 X).length < 2147483648) (r : Bool) (hr : Hid (r = decide (X % 2 = 1))) :
  Calls Tryz.prog 143 #[v] w fun e w' => e = .returned (.bool r)∧w' = w:=by
 rcases hv.open with ⟨e,a,c,rfl⟩ | ⟨hp,b,o,c,rfl,hc,-,hcell⟩
 ·have hX : X = 0:=(wd_nil_iff (by omega) X).1 e
  have er : Hid (r = false):=by show _ = _; rw [unhide hr,hX]; rfl
  clear hr e hv hl
  go_enter Tryz.func143,Tryz.ntmps143
  go_wp2
  go_ret
  exact ⟨by rw [unhide er]; rfl,rfl⟩
 ·have hX : 0 < X:=by
   rcases Nat.eq_zero_or_pos X with h0 | h0
   ·subst h0; rw [wd_zero] at hp; simp at hp
   ·exact h0
  have c0:=hcell 0 hp
  rw [Nat.add_zero] at c0
  have hb:=mem_getD (wd_mem (B:=18446744073709551616) (by omega) X) (by omega : 0 < 18446744073709551616) 0
  have ho:=odd_word X hX
  generalize (wd 18446744073709551616 X)[0]?.getD 0 = x at *
  generalize (wd 18446744073709551616 X).length = n at *
  have E1 : bits .and .u64 (x : Int) 1 = ((x % 2 : Nat) : Int):=by
   have:=bits_and_u64_nat x 1 hb (by omega)
   rw [Nat.and_one_is_mod] at this
   exact this
  have er : Hid (r = (((x % 2 : Nat) : Int) == 1)):=by
   show _ = _
   rw [unhide hr,← ho,Bool.eq_iff_iff,decide_eq_true_iff,beq_iff_eq]
   omega
  have hlt : (x % 2 : Nat) < 2:=Nat.mod_lt _ (by omega)
  generalize x % 2 = y at *
  have n0 : (0 : Int) < (n : Int):=by omega
  clear hr hcell hv ho
  go_enter Tryz.func143,Tryz.ntmps143
  go_wp2
  go_ret
  exact ⟨by rw [unhide er]; rfl,rfl⟩

set_option maxHeartbeats 4000000 in
set_option maxRecDepth 100000 in
theorem fracOdd_any (v : Value) (f : Rat) (w : World) (hf : FracAt w v f) (hl : (wd 18446744073709551616 f.num.natAbs).length < 2147483648) (r : Bool) (hr : Hid (r = decide (f.num.natAbs % 2 = 1))) :
  Calls Tryz.prog 99 #[v] w fun e w' => e = .returned (.bool r)∧But [] w w':=by
 rcases hf with ⟨hp,hq,rfl⟩ | ⟨hbig,b,v1,v2,rfl,hc0,hc1,hs1,hs2⟩
 ·generalize decide (f.num < 0) = s
  generalize f.num.natAbs = p at *
  generalize f.den = q at *
  have E1 : bits .and .u64 (p : Int) 1 = ((p % 2 : Nat) : Int):=by
   have:=bits_and_u64_nat p 1 hp (by omega)
   rw [Nat.and_one_is_mod] at this
   exact this
  have er : Hid (r = (((p % 2 : Nat) : Int) == 1)):=by
   show _ = _
   rw [unhide hr,Bool.eq_iff_iff,decide_eq_true_iff,beq_iff_eq]
   omega
  have hlt : (p % 2 : Nat) < 2:=Nat.mod_lt _ (by omega)
  generalize p % 2 = y at *
  clear hr hl
  go_enter Tryz.func99,Tryz.ntmps99
  go_wp2
  go_ret
  exact ⟨by rw [unhide er]; rfl,(But.refl _ _).alloc _⟩
 ·have OD : Hid (∀ W,But [] w W→Calls Tryz.prog 143 #[v1] W fun e w' => e = .returned (.bool r)∧w' = W):=fun W hb => natOdd_any v1 _ W (hs1.but_nil hb) hl r hr
  obtain ⟨a1,e1,rfl,-,-⟩:=hs1
  clear hs2 hbig hr hl
  generalize (wd 18446744073709551616 f.num.natAbs).length = n1 at *
  generalize decide (f.num < 0) = s
  have hbl : b < w.heap.size:=lt_of_cell hc0
  clear hc1
  go_enter Tryz.func99,Tryz.ntmps99
  go_wp2_with fail
  refine (unhide OD _ ((But.refl _ _).alloc _)).mono ?_
  rintro e w1 ⟨rfl,hw⟩
  obtain rfl:=hw.symm
  clear hw
  go_wp2
  go_ret
  exact ⟨rfl,(But.refl _ _).alloc _⟩

end Go.Proofs.YtjbboicccddhbaaGreatDoor
