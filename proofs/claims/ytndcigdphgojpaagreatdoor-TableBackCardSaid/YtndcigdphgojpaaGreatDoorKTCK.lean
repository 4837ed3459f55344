/- How likely one lives so many years, by a table, as the Go text of package table tells it. -/
import Derived.Test.YtndcigdphgojpaaGreatDoorKTCJ
namespace Go.Proofs.YtndcigdphgojpaaGreatDoor
open Go.RowKit Go.Shelf
set_option linter.unusedVariables false

set_option maxHeartbeats 32000000 in
set_option maxRecDepth 100000 in
theorem tabP_any (g : Nat) (z : Int) (fs : List Rat) (i nY : Nat) (w : World) (h : TabAt w g z fs) (h0 : 0 ≤ z) (h1 : z ≤ 1000) (hn : fs.length ≤ 60) (hn0 : 0 < fs.length) (hi : i ≤ 1000) (hY : nY ≤ 1000) (lf : ∀ f ∈ fs,Len f 1) :
  Calls Tryz.prog 8 #[.pointer (some ⟨g,0,none⟩),.int .i64 (z + (i : Int)),.int .i64 (nY : Int)] w fun e w' => ∃ v,e = .returned (.tuple #[v,.nilIface])∧FracAt w' v (pvT fs i nY)∧But [] w w':=by
 have AG:=hide (fun W (hb : But [] w W) => tabAges_any g z fs W (h.but hb) h0 h1 (by omega))
 obtain ⟨r,p,FW,CW⟩:=whole_at 1 (by omega) (by omega) w
 have HFW:=hide FW
 have HCW:=hide CW
 have LF:=hide lf
 have LS : Hid (∀ k,Len (1 - fs[i + k]?.getD 0) 1000000):=fun k => by
  have h1 : Len (fs[i + k]?.getD 0) 1:=by
   cases e : fs[i + k]? with
   | none => exact len_of (m:=1) (n:=1) (by decide) (by decide) 1 (by omega) (by omega)
   | some f => exact lf f (List.mem_of_getElem? e)
  have h2 : Len (1 : Rat) 1:=len_of (m:=1) (n:=1) (by decide) (by decide) 1 (by omega) (by omega)
  exact (len_sub h2 h1 4 (by omega)).mono (by omega)
 have ST : Hid (∀ k,(k < nY→i + k < fs.length)→k < nY→∀ W,But [] w W→Calls Tryz.prog 23 #[.pointer (some ⟨g,0,none⟩),.int .i64 (z + (i : Int) + (k : Int))] W fun e w' => ∃ v,e = .returned v∧FracAt w' v (1 - fs[i + k]?.getD 0)∧But [] W w'):=fun k hk hlt W hb =>
  tabStays_any g z _ fs (i + k) W (h.but hb) h0 h1 (by omega) (hk hlt) (by omega) lf
 obtain ⟨F0,hF0⟩ : ∃ F0,F0 = w.alloc (.cells #[.bool false,.int .u64 0,.int .u64 0,.pointer none] 36):=⟨_,rfl⟩
 have bF0 : But [] w F0:=by rw [hF0]; exact (But.refl _ _).alloc _
 have X60 : Hid (BoxAt F0 w.heap.size 0):=by rw [hF0]; exact BoxAt.new w false 0 0 none 0 36 (zero_at _)
 have B0:=hide bF0
 obtain ⟨n,hN⟩ : ∃ n,n = fs.length:=⟨_,rfl⟩
 rw [← hN] at AG hn hn0
 have HN:=hide hN
 obtain ⟨y,hy⟩ : ∃ y,y = z + (i : Int):=⟨_,rfl⟩
 have hty : z + (n : Int) - 1 - y = (n : Int) - 1 - (i : Int):=by omega
 clear h lf FW CW hN bF0
 go_enter Tryz.func8,Tryz.ntmps8
 go_wp2_with fail
 rw [← hF0]
 clear hF0
 refine (unhide AG _ (unhide B0)).mono ?_
 rintro e w1 ⟨rfl,hb1⟩
 have B1:=hide ((unhide B0).trans' hb1)
 have X61:=hide ((unhide X60).but hb1)
 clear hb1 AG B0 X60 hy hty
 have n1 : ¬ (nY : Int) < 0:=by omega
 have n2 : ¬ z + (i : Int) < z:=by omega
 have d1 : decide ((nY : Int) < 0) = false:=decide_eq_false n1
 have d2 : decide (z + (i : Int) < z) = false:=decide_eq_false n2
 have wr1 : IntKind.i64.wrap (z + (n : Int) - 1 - (z + (i : Int))) = z + (n : Int) - 1 - (z + (i : Int)):=by rw [IntKind.wrap_i64]; omega
 by_cases hz : nY = 0
 ·subst hz
  have HPV : Hid (pvT fs i 0 = prS fs i 0):=by show _ = _; unfold pvT; rw [if_neg (by omega)]
  replace ST : Hid (∀ k : Nat,k < 0→∀ W,But [] w W→Calls Tryz.prog 23 #[.pointer (some ⟨g,0,none⟩),.int .i64 (z + (i : Int) + (k : Int))] W fun e w' => ∃ v,e = .returned v∧FracAt w' v (1 - fs[i + k]?.getD 0)∧But [] W w'):=fun k hk => by omega
  go_wp2_with fail
  refine (unhide HCW _).mono ?_
  rintro e w2 ⟨rfl,hb2⟩
  have x10:=BoxAt.new w2 r p 0 none ((1 : Int) : Rat) 36 (unhide HFW w2)
  have bA : But [] w2 (w2.alloc (.cells #[.bool r,.int .u64 p,.int .u64 0,.pointer none] 36)):=(But.refl _ _).alloc _
  have B2:=hide (((unhide B1).trans' hb2).trans' bA)
  have X6:=hide (((unhide X61).but hb2).but bA)
  have S2 : Hid (w.heap.size ≤ w2.heap.size):=Nat.le_trans ((unhide B1).size) hb2.size
  have X10:=hide x10
  have hne : w.heap.size < w2.heap.size:=Nat.lt_of_lt_of_le (unhide X61).lt hb2.size
  clear hb2 x10 bA X61 B1
  go_wp2
  generalize w2.alloc (.cells #[.bool r,.int .u64 p,.int .u64 0,.pointer none] 36) = V2 at *
  generalize hg10 : w2.heap.size = g10 at *
  generalize hg6 : w.heap.size = g6 at X6 hne ⊢
  have HG6 : Hid (w.heap.size ≤ g6):=Nat.le_of_eq hg6
  clear hg10 hg6
  go_loopw [40] (fun iv wr => ∃ k : Nat,k ≤ 0∧iv = .int .i64 (k : Int)∧Hid (BoxAt wr g10 (prS fs i k))∧Hid (BoxAt wr g6 0)∧Hid (But [] w wr)) (fun iv _ => 0 - (intOf iv).toNat)
  case atStart => exact ⟨0,Nat.zero_le _,rfl,unhide X10,unhide X6,unhide B2⟩
  case round =>
   obtain ⟨k,hk,rfl,HX,HY,HB⟩:=hrel
   rename World => wr
   clear X10 X6 B2
   by_cases hlt : k < 0
   ·omega
   ·obtain rfl : k = 0:=by omega
    obtain ⟨⟨s1,x1,y1,p1,⟨a0,a1,a2,a3⟩,hf1⟩,z1⟩:=unhide HX
    obtain ⟨⟨s6,x6,y6,p6,hp6,-⟩,z6⟩:=unhide HY
    have hp6':=hp6
    obtain ⟨b0,b1,b2,b3⟩:=hp6
    have HF1:=hide hf1
    have P6:=hide hp6'
    clear hf1 HX HY hp6'
    go_wp2
    have hP:=put4_but wr g6 s1 x1 y1 p1
    obtain ⟨m0,m1,m2,m3⟩:=put4_p4 wr g6 s1 x1 y1 p1 (unhide P6)
    have hF : But [] w (put4 wr g6 s1 x1 y1 p1):=(unhide HB).trans hP (fun x hx => by simp at hx; subst hx; exact .inr (unhide HG6))
    have hff:=(unhide HF1).over (unhide P6).1 hP
    rw [← unhide HPV] at hff
    change bodyPost _ _ _ _ _ (put4 wr g6 s1 x1 y1 p1)
    generalize put4 wr g6 s1 x1 y1 p1 = F at *
    exact bodyPost_ret (v:=.tuple #[.agg #[.bool s1,.int .u64 x1,.int .u64 y1,.pointer p1],.nilIface]) (by simp [results,Tryz.results8,go_sem,m0,m1,m2,m3]) rfl ⟨_,rfl,hff,hF⟩
 ·have p1 : (0 : Int) < (nY : Int):=by omega
  have dp1 : decide ((0 : Int) < (nY : Int)) = true:=decide_eq_true p1
  by_cases hA : n ≤ i + nY
  ·have HPV : Hid (pvT fs i nY = 0):=by show _ = _; unfold pvT; rw [if_pos ⟨by omega,by have:=unhide HN; omega⟩]
   have q1 : z + (n : Int) - 1 - (z + (i : Int)) < (nY : Int):=by omega
   have dq1 : decide (z + (n : Int) - 1 - (z + (i : Int)) < (nY : Int)) = true:=decide_eq_true q1
   obtain ⟨⟨s6,x6,y6,p6,hp6,-⟩,z6⟩:=unhide X61
   have P6:=hide hp6
   obtain ⟨b0,b1,b2,b3⟩:=hp6
   clear ST LS HCW HFW
   generalize hg6 : w.heap.size = g6 at *
   have HG6 : Hid (w.heap.size ≤ g6):=Nat.le_of_eq hg6
   clear hg6
   go_wp2
   have hP:=put4_but w1 g6 false 0 0 none
   obtain ⟨m0,m1,m2,m3⟩:=put4_p4 w1 g6 false 0 0 none (unhide P6)
   have hF : But [] w (put4 w1 g6 false 0 0 none):=(unhide B1).trans hP (fun x hx => by simp at hx; subst hx; exact .inr (unhide HG6))
   change bodyPost _ _ _ _ _ (put4 w1 g6 false 0 0 none)
   generalize put4 w1 g6 false 0 0 none = F at *
   exact bodyPost_ret (v:=.tuple #[.agg #[.bool false,.int .u64 0,.int .u64 0,.pointer none],.nilIface]) (by simp [results,Tryz.results8,go_sem,m0,m1,m2,m3]) rfl ⟨_,rfl,by rw [unhide HPV]; exact zero_at _,hF⟩
  ·have HPV : Hid (pvT fs i nY = prS fs i nY):=by show _ = _; unfold pvT; rw [if_neg (by have:=unhide HN; omega)]
   have q1 : ¬ z + (n : Int) - 1 - (z + (i : Int)) < (nY : Int):=by omega
   have dq1 : decide (z + (n : Int) - 1 - (z + (i : Int)) < (nY : Int)) = false:=decide_eq_false q1
   replace ST : Hid (∀ k,k < nY→∀ W,But [] w W→Calls Tryz.prog 23 #[.pointer (some ⟨g,0,none⟩),.int .i64 (z + (i : Int) + (k : Int))] W fun e w' => ∃ v,e = .returned v∧FracAt w' v (1 - fs[i + k]?.getD 0)∧But [] W w'):=fun k hk => unhide ST k (fun _ => by have:=unhide HN; omega) hk
   go_wp2_with fail
   refine (unhide HCW _).mono ?_
   rintro e w2 ⟨rfl,hb2⟩
   have x10:=BoxAt.new w2 r p 0 none ((1 : Int) : Rat) 36 (unhide HFW w2)
   have bA : But [] w2 (w2.alloc (.cells #[.bool r,.int .u64 p,.int .u64 0,.pointer none] 36)):=(But.refl _ _).alloc _
   have B2:=hide (((unhide B1).trans' hb2).trans' bA)
   have X6:=hide (((unhide X61).but hb2).but bA)
   have S2 : Hid (w.heap.size ≤ w2.heap.size):=Nat.le_trans ((unhide B1).size) hb2.size
   have X10:=hide x10
   have hne : w.heap.size < w2.heap.size:=Nat.lt_of_lt_of_le (unhide X61).lt hb2.size
   clear hb2 x10 bA X61 B1
   go_wp2
   generalize w2.alloc (.cells #[.bool r,.int .u64 p,.int .u64 0,.pointer none] 36) = V2 at *
   generalize hg10 : w2.heap.size = g10 at *
   generalize hg6 : w.heap.size = g6 at X6 hne ⊢
   have HG6 : Hid (w.heap.size ≤ g6):=Nat.le_of_eq hg6
   clear hg10 hg6
   go_loopw [40] (fun iv wr => ∃ k : Nat,k ≤ nY∧iv = .int .i64 (k : Int)∧Hid (BoxAt wr g10 (prS fs i k))∧Hid (BoxAt wr g6 0)∧Hid (But [] w wr)) (fun iv _ => nY - (intOf iv).toNat)
   case atStart => exact ⟨0,Nat.zero_le _,rfl,unhide X10,unhide X6,unhide B2⟩
   case round =>
    obtain ⟨k,hk,rfl,HX,HY,HB⟩:=hrel
    rename World => wr
    clear X10 X6 B2
    by_cases hlt : k < nY
    ·obtain ⟨⟨s1,x1,y1,p1,hp,hf1⟩,z1⟩:=unhide HX
     have ST1:=hide (unhide ST k hlt)
     have MU:=hide (fun W (hb : But [] wr W) v (hv : FracAt W v (1 - fs[i + k]?.getD 0)) => fracMul_any _ v _ _ W (hf1.but hb) hv ((len_prS fs (unhide LF) i k).mono (by omega)) (unhide LS k))
     have HP:=hide hp
     have Z1:=hide z1
     clear hf1 hp z1
     go_wp2
     refine p_region10 10 _ _ wr g (z + (i : Int)) k (z + (i : Int) + (k : Int)) s1 x1 y1 p1 (1 - fs[i + k]?.getD 0) (prS fs i (k + 1)) g10 (by simp) (by simp [Act.eval]) (unhide HP) (unhide Z1) (by simp [Act.eval]) (by simp [Act.eval]) (by simp [Act.eval]) ((unhide HP)) rfl ⟨by omega,by omega⟩ (fun W hb => unhide ST1 W ((unhide HB).trans' hb)) (fun W hb v hv => unhide MU W hb v hv) ?_
     intro w3 v5 s3 x3 y3 p3 hb3 hf3
     simp only [putted,List.foldl_cons,List.foldl_nil,Act.put,List.setIfInBounds_toArray,List.set_cons_zero,List.set_cons_succ]
     have X3:=hide (((unhide HX).but hb3).put (s:=s3) (x:=x3) (y:=y3) (p:=p3) hf3)
     have hS:=put4_but w3 g10 s3 x3 y3 p3
     obtain ⟨cb,hcb⟩:=((unhide HX).but hb3).bool
     have Y3:=hide (((unhide HY).but hb3).beside hS (by simp; omega) (fun g hg => by simp at hg; subst hg; exact ⟨_,hcb⟩))
     have B3:=hide (((unhide HB).trans' hb3).trans hS (fun x hx => by simp at hx; subst hx; exact .inr (unhide S2)))
     clear hb3 hf3 hS hcb HX HY HB MU ST1 HP Z1
     generalize put4 w3 g10 s3 x3 y3 p3 = V3 at *
     go_wp2
     exact ⟨⟨k + 1,by omega,by go_num,unhide X3,unhide Y3,unhide B3⟩,by simp [intOf] <;> omega⟩
    ·obtain rfl : k = nY:=by omega
     obtain ⟨⟨s1,x1,y1,p1,⟨a0,a1,a2,a3⟩,hf1⟩,z1⟩:=unhide HX
     obtain ⟨⟨s6,x6,y6,p6,hp6,-⟩,z6⟩:=unhide HY
     have hp6':=hp6
     obtain ⟨b0,b1,b2,b3⟩:=hp6
     have HF1:=hide hf1
     have P6:=hide hp6'
     clear hf1 HX HY hp6'
     go_wp2
     have hP:=put4_but wr g6 s1 x1 y1 p1
     obtain ⟨m0,m1,m2,m3⟩:=put4_p4 wr g6 s1 x1 y1 p1 (unhide P6)
     have hF : But [] w (put4 wr g6 s1 x1 y1 p1):=(unhide HB).trans hP (fun x hx => by simp at hx; subst hx; exact .inr (unhide HG6))
     have hff:=(unhide HF1).over (unhide P6).1 hP
     rw [← unhide HPV] at hff
     change bodyPost _ _ _ _ _ (put4 wr g6 s1 x1 y1 p1)
     generalize put4 wr g6 s1 x1 y1 p1 = F at *
     exact bodyPost_ret (v:=.tuple #[.agg #[.bool s1,.int .u64 x1,.int .u64 y1,.pointer p1],.nilIface]) (by simp [results,Tryz.results8,go_sem,m0,m1,m2,m3]) rfl ⟨_,rfl,hff,hF⟩
end Go.Proofs.YtndcigdphgojpaaGreatDoor
