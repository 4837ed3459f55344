/- The law CreditBest: few kinds, few rows. -/
import Derived.Test.YtloojmaamaambaaGreatDoorKBJP
namespace Go.Proofs.YtloojmaamaambaaGreatDoor
open Go.RowKit

set_option maxHeartbeats 64000000 in
set_option maxRecDepth 100000 in
theorem best_main (a1 : Option Addr) (n c1 : Nat) (a2 : Option Addr) (n2 c2 : Nat) (a3 : Option Addr) (n3 c3 : Nat) (yy u4 v4 u5 v5 : Int) (a6 : Option Addr) (n6 c6 : Nat) (p1 p2 p3 : List (Int × Int)) (rs : List (List (Int × Int))) (w : World) (h1 : QsAt w (.slice a1 n c1) p1) (h2 : QsAt w (.slice a2 n2 c2) p2) (h3 : QsAt w (.slice a3 n3 c3) p3) (hq : QrowsAt w (.slice a6 n6 c6) rs) (N6 : n6 = rs.length) (N1 : n = p1.length) (N2 : n2 = p2.length) (N3 : n3 = p3.length) (hn : n ≤ 12) (hn2 : n ≤ n2) (hn3 : n ≤ n3) (hb2 : n2 < 4294967296) (hb3 : n3 < 4294967296) (f1 : ∀ q ∈ p1,Fits q) (f2 : ∀ q ∈ p2,Fits q) (f3 : ∀ q ∈ p3,Fits q) (f4 : Fits (u4,v4)) (f5 : Fits (u5,v5)) (f6 : ∀ r ∈ rs,∀ z ∈ r,Fits z) (hy1 : -9223372036854775808 ≤ yy) (hy2 : yy < 9223372036854775808) (ht : 1 + n6 + totN rs n6 ≤ 80)
  (htab : Lib.TabIs Tryz.prog w "internal/strconv.uint64pow10" .u64 Lib.pow10Tab) : Calls Tryz.prog 8 #[.slice a1 n c1,.slice a2 n2 c2,.slice a3 n3 c3,.int .i64 yy,.agg #[.int .i64 u4,.int .i64 v4],.agg #[.int .i64 u5,.int .i64 v5],.slice a6 n6 c6] w fun e w' => e = .returned (.bool true)∧But [] w w':=by
 have tk : ∀ k,k ≤ n6→totN rs k ≤ 2000000:=fun k hk => by
  have:=sgN_up (fun j => (rs[j]?.getD []).length) n6 k hk
  unfold totN at ht ⊢
  omega
 have tl : ∀ i,i < n6→(rs[i]?.getD []).length ≤ 80:=fun i hi => by
  have:=tot_part rs n6 i hi
  omega
 obtain ⟨R1,X1,Y1,R2,X2,Y2,R3,X3,Y3,ks,KN,lc,lm,lp,V1,V2,V3,KA⟩:=kinds_chosen p1 p2 p3 n (by omega) (by omega) (by omega) f1 f2 f3
 obtain ⟨r4,x4,y4,l4,F4,C4⟩:=plainF_at (u4,v4) f4
 obtain ⟨r5,x5,y5,l5,F5,C5⟩:=plainF_at (u5,v5) f5
 replace C4 : ∀ W,Calls Tryz.prog 10 #[.agg #[.int .i64 u4,.int .i64 v4]] W fun e w' => e = .returned (.agg #[.bool r4,.int .u64 x4,.int .u64 y4,.pointer none])∧But [] W w':=C4
 replace C5 : ∀ W,Calls Tryz.prog 10 #[.agg #[.int .i64 u5,.int .i64 v5]] W fun e w' => e = .returned (.agg #[.bool r5,.int .u64 x5,.int .u64 y5,.pointer none])∧But [] W w':=C5
 generalize qf (u4,v4) = q4 at *
 generalize qf (u5,v5) = q5 at *
 have PK:=hide (pick_gen yy 30 hy1 hy2 (by omega) (by omega))
 have py:=pick_ltJ yy 30 (by omega)
 generalize ((if yy < 0 then yy + 18446744073709551616 else yy) % 30).toNat = ya at *
 obtain ⟨yr,hyr⟩ : ∃ yr : Int,yr = 1 + (ya : Int):=⟨_,rfl⟩
 obtain ⟨ev,e,lb,lo,AA,hev,llb,llo,lA,hbest,LI,AM⟩:=credit_three ks n yr KN (by omega) (by omega) (by omega) lc lm lp
 have FEW:=hide (fun W g (hc : W.cell? ⟨g,0,none⟩ = some (.slice a6 n6 c6)) (h : But [] w W) => few_any g a6 n6 c6 rs W hc (hq.but h) (by omega) tk)
 rw [decide_eq_true ht] at FEW
 have ROWS:=hide (fun W (h : But [] w W) => plainRows_any a6 n6 c6 rs W (hq.but h) N6 (by omega) (fun i hi => by have:=tl i hi; omega) f6)
 obtain ⟨hform,hest⟩:=rows_two rs n6 N6 (by omega) tl f6
 have FORM:=hide hform
 have EST:=hide hest
 have HALF:=hide (fun W (h : But [] w W) => half_any W (TabIs.but htab h))
 have HT:=hide htab
 have Q1:=hide (fun W (h : But [] w W) i hi => qs_cells (h1.but h) i hi)
 have Q2:=hide (fun W (h : But [] w W) i hi => qs_cells (h2.but h) i hi)
 have Q3:=hide (fun W (h : But [] w W) i hi => qs_cells (h3.but h) i hi)
 replace V1 : Hid (∀ i,i < n→∀ W,Calls Tryz.prog 10 #[.agg #[.int .i64 (p1[i]?.getD (0,0)).1,.int .i64 (p1[i]?.getD (0,0)).2]] W fun e w' => e = .returned (.agg #[.bool (R1 i),.int .u64 (X1 i),.int .u64 (Y1 i),.pointer none])∧But [] W w'):=V1
 replace V2 : Hid (∀ i,i < n→∀ W,Calls Tryz.prog 10 #[.agg #[.int .i64 (p2[i]?.getD (0,0)).1,.int .i64 (p2[i]?.getD (0,0)).2]] W fun e w' => e = .returned (.agg #[.bool (R2 i),.int .u64 (X2 i),.int .u64 (Y2 i),.pointer none])∧But [] W w'):=V2
 replace V3 : Hid (∀ i,i < n→∀ W,Calls Tryz.prog 10 #[.agg #[.int .i64 (p3[i]?.getD (0,0)).1,.int .i64 (p3[i]?.getD (0,0)).2]] W fun e w' => e = .returned (.agg #[.bool (R3 i),.int .u64 (X3 i),.int .u64 (Y3 i),.pointer none])∧But [] W w'):=V3
 replace KA:=hide KA
 replace LI:=hide LI
 replace AM:=hide AM
 replace C4:=hide C4
 replace C5:=hide C5
 replace F4:=hide F4
 replace F5:=hide F5
 have LEN:=hide (And.intro l4 (And.intro l5 (And.intro llb (And.intro llo lA))))
 have BEST:=hide hbest
 have HEV:=hide hev
 have HWY : Hid (wrap64 (1 + (ya : Int)) = yr):=by
  show wrap64 (1 + (ya : Int)) = yr
  unfold wrap64; omega
 have n6b : n6 ≤ 80:=by omega
 clear h1 h2 h3 hq N1 N2 N3 N6 f1 f2 f3 f4 f5 f6 ht htab tk tl KN lc lm lp l4 l5 llb llo lA hbest hev hyr hy1 hy2 py hform hest
 obtain ⟨W1,hW1⟩ : ∃ W1,W1 = (w.alloc (.cells #[.int .i64 u4,.int .i64 v4] 23)).alloc (.cells #[.int .i64 u5,.int .i64 v5] 23):=⟨_,rfl⟩
 have sW1 : W1.heap.size = w.heap.size + 1 + 1:=by rw [hW1]; simp
 have BW1 : Hid (But [] w W1):=by rw [hW1]; exact ((But.refl _ _).alloc _).alloc _
 have CW1 : Hid (W1.cell? ⟨w.heap.size,0,none⟩ = some (.int .i64 u4)∧W1.cell? ⟨w.heap.size,0 + 1,none⟩ = some (.int .i64 v4)∧W1.cell? ⟨w.heap.size + 1,0,none⟩ = some (.int .i64 u5)∧W1.cell? ⟨w.heap.size + 1,0 + 1,none⟩ = some (.int .i64 v5)):=by
  have e1 : w.heap.size + 1 = (w.alloc (.cells #[.int .i64 u4,.int .i64 v4] 23)).heap.size:=by simp
  have b2 : But [] (w.alloc (.cells #[.int .i64 u4,.int .i64 v4] 23)) W1:=by rw [hW1]; exact (But.refl _ _).alloc _
  refine ⟨b2.cell_some (by rw [World.cell?_alloc_new]; rfl) (by simp),b2.cell_some (by rw [World.cell?_alloc_new]; rfl) (by simp),?_,?_⟩
  ·rw [hW1,e1,World.cell?_alloc_new]; rfl
  ·rw [hW1,e1,World.cell?_alloc_new]; rfl
 have HW1:=hide hW1
 have SW1:=hide sW1
 clear hW1 sW1
 go_enter Tryz.func8,Tryz.ntmps8
 go_wp2_with fail
 rw [← unhide HW1]
 refine (unhide FEW _ _ ?_ ?_).mono ?_
 ·rw [← unhide SW1,World.cell?_alloc_new]
  rfl
 ·exact (unhide BW1).alloc _
 rintro e1 w1 ⟨rfl,hb1⟩
 have B1 : Hid (But [] W1 w1):=((But.refl _ _).alloc _).trans' hb1
 clear hb1 FEW HW1
 have W1L : w.heap.size + 1 + 1 ≤ w1.heap.size:=by rw [← unhide SW1]; exact (unhide B1).size
 go_wp2
 go_loopw [16,17] (fun o iv wr => ∃ k : Nat,k ≤ n∧iv = .int .i64 (k : Int)∧Hid (wr.ownsRow w1.heap.size 79 12 o k ((List.range k).flatMap fun i => [.bool (R1 i),.int .u64 (X1 i),.int .u64 (Y1 i),.pointer none,.bool (R2 i),.int .u64 (X2 i),.int .u64 (Y2 i),.pointer none,.bool (R3 i),.int .u64 (X3 i),.int .u64 (Y3 i),.pointer none])∧But [] w1 wr)) (fun _ iv _ => n - (intOf iv).toNat)
 case atStart => exact ⟨0,Nat.zero_le _,rfl,World.ownsRow_nil _ _ _ _,But.refl _ _⟩
 case round =>
  obtain ⟨k,hk,rfl,HI⟩:=hrel
  rename World => wr
  have bw : Hid (But [] w wr):=(unhide BW1).trans' ((unhide B1).trans' (unhide HI).2)
  by_cases hlt : k < n
  ·obtain ⟨b1,o1,rfl,ca1,cb1⟩:=unhide Q1 wr (unhide bw) k hlt
   obtain ⟨b2,o2,rfl,ca2,cb2⟩:=unhide Q2 wr (unhide bw) k (by omega)
   obtain ⟨b3,o3,rfl,ca3,cb3⟩:=unhide Q3 wr (unhide bw) k (by omega)
   have PF1:=hide (unhide V1 k hlt)
   have PF2:=hide (unhide V2 k hlt)
   have PF3:=hide (unhide V3 k hlt)
   have CC:=hide (And.intro (And.intro ca1 cb1) (And.intro (And.intro ca2 cb2) (And.intro ca3 cb3)))
   clear ca1 cb1 ca2 cb2 ca3 cb3 V1 V2 V3 Q1 Q2 Q3 PK LI AM C4 C5 F4 F5 LEN BEST HEV HWY FORM EST ROWS HALF HT KA CW1
   go_wp2
   refine kind_region 8 _ _ wr u16 k b1 o1 n c1 _ _ b2 o2 n2 c2 _ _ b3 o3 n3 c3 _ _ (R1 k) (X1 k) (Y1 k) none (R2 k) (X2 k) (Y2 k) none (R3 k) (X3 k) (Y3 k) none (fun v' w' => w'.ownsRow w1.heap.size 79 12 v' (k + 1) ((List.range (k + 1)).flatMap fun i => [.bool (R1 i),.int .u64 (X1 i),.int .u64 (Y1 i),.pointer none,.bool (R2 i),.int .u64 (X2 i),.int .u64 (Y2 i),.pointer none,.bool (R3 i),.int .u64 (X3 i),.int .u64 (Y3 i),.pointer none])∧But [] w1 w') (by simp) (by simp [Act.eval]) (by simp [Act.eval]) (by simp [Act.eval]) (by simp [Act.eval]) (by simp [Act.eval]) hlt (by omega) (unhide CC).1.1 (unhide CC).1.2 (by omega) hb2 (unhide CC).2.1.1 (unhide CC).2.1.2 (by omega) hb3 (unhide CC).2.2.1 (unhide CC).2.2.2 (unhide PF1) (unhide PF2) (unhide PF3) (fun W g hb hc => ?_) ?_
   ·have oW:=ownsRow_but (unhide HI).1 hb
    obtain ⟨v',w',hr,ho,hg⟩:=append_kind W w1.heap.size u16 k _ oW g (R1 k) (X1 k) (Y1 k) none (R2 k) (X2 k) (Y2 k) none (R3 k) (X3 k) (Y3 k) none hc (by omega) ((unhide HI).2.trans' hb).size
    exact ⟨v',w',hr,by rw [List.range_succ,List.flatMap_append,List.flatMap_singleton]; exact ho,but_of_grown ((unhide HI).2.trans' hb) oW (Nat.le_refl _) hg⟩
   ·rintro W g v' ⟨ho,hb⟩
    simp only [putted,List.foldl_cons,List.foldl_nil,Act.put,List.setIfInBounds_toArray,List.set_cons_zero,List.set_cons_succ]
    have HO:=hide ho
    have HB:=hide hb
    clear ho hb HI bw CC PF1 PF2 PF3
    go_wp2
    exact ⟨⟨k + 1,by omega,by go_num,unhide HO,unhide HB⟩,by simp [intOf]; omega⟩
  ·obtain rfl : k = n:=by omega
   obtain ⟨a',c',rfl⟩:=ownsRow_form (unhide HI).1
   have KI:=hide (unhide KA _ _ _ _ (unhide HI).1)
   have HB:=hide ((unhide B1).trans' (unhide HI).2)
   have WL : w.heap.size + 1 + 1 ≤ wr.heap.size:=Nat.le_trans W1L (unhide HI).2.size
   clear V1 V2 V3 Q1 Q2 Q3 KA HI hn2 hn3 hb2 hb3 W1L
   go_wp2_with fail
   refine (unhide PK _).mono ?_
   rintro e2 w2 ⟨rfl,hb2⟩
   have KI2:=hide ((unhide KI).but hb2)
   have HB2:=hide ((unhide HB).trans' hb2)
   clear hb2 KI HB PK
   go_wp2_with fail
   rw [unhide HWY]
   refine (unhide LI _ _ _ (unhide KI2)).mono ?_
   rintro e3 w3 ⟨v3,rfl,⟨s1,x1,y1,p1,s2,x2,y2,p2,rfl,h1,h2⟩,hb3⟩
   have bA3 : But [] w3 (w3.alloc (.cells #[.bool s1,.int .u64 x1,.int .u64 y1,.pointer p1,.bool s2,.int .u64 x2,.int .u64 y2,.pointer p2] 81)):=(But.refl _ _).alloc _
   have bs3:=hb3.trans' bA3
   have HB3:=hide ((unhide HB2).trans' bs3)
   have KI3:=hide ((unhide KI2).but bs3)
   have X18 : Hid (SBox (w3.alloc (.cells #[.bool s1,.int .u64 x1,.int .u64 y1,.pointer p1,.bool s2,.int .u64 x2,.int .u64 y2,.pointer p2] 81)) w3.heap.size [.bool s1,.int .u64 x1,.int .u64 y1,.pointer p1,.bool s2,.int .u64 x2,.int .u64 y2,.pointer p2]):=SBox.new w3 _ _
   have H1:=hide (h1.but bA3)
   have H2:=hide (h2.but bA3)
   clear hb3 bA3 bs3 h1 h2 HB2 KI2 LI
   go_wp2_with fail
   generalize w3.heap.size = g18 at *
   generalize w3.alloc (.cells #[.bool s1,.int .u64 x1,.int .u64 y1,.pointer p1,.bool s2,.int .u64 x2,.int .u64 y2,.pointer p2] 81) = V3 at *
   refine (unhide AM _ _ _ s1 x1 y1 p1 s2 x2 y2 p2 lb lo (unhide KI3) (unhide H1) (unhide H2) (unhide LEN).2.2.1 (unhide LEN).2.2.2.1).mono ?_
   rintro e4 w4 ⟨v4',rfl,hf4,hb4⟩
   obtain ⟨x6,y6,p6,rfl,-⟩:=id hf4.agg
   generalize decide ((AA lb lo).num < 0) = s6 at *
   have bA4 : But [] w4 (w4.alloc (.cells #[.bool s6,.int .u64 x6,.int .u64 y6,.pointer p6] 29)):=(But.refl _ _).alloc _
   have bs4:=hb4.trans' bA4
   have HB4:=hide ((unhide HB3).trans' bs4)
   have KI4:=hide ((unhide KI3).but bs4)
   have X184:=hide ((unhide X18).but bs4 (by simp) (by simp))
   have H24:=hide ((unhide H2).but bs4)
   have Y20:=hide (BoxAt.new w4 s6 x6 y6 p6 _ 29 hf4)
   clear hb4 hf4 bA4 bs4 HB3 KI3 X18 H1 H2
   go_wp2
   generalize w4.heap.size = g20 at *
   generalize w4.alloc (.cells #[.bool s6,.int .u64 x6,.int .u64 y6,.pointer p6] 29) = V4 at *
   obtain ⟨k1,k2,k3,k4⟩:=unhide CW1
   refine line_region12 12 _ _ V4 V4.heap.size (AA q4 q5) ev a' k c' yr u4 v4 u5 v5 r4 x4 y4 none r5 x5 y5 none (by simp) w.heap.size (w.heap.size + 1) rfl (by simp [Act.eval]) (by simp [Act.eval]) (by simp [Act.eval]) (by simp [Act.eval]) ((unhide HB4).cell_some k1 (by simp)) ((unhide HB4).cell_some k2 (by simp)) ((unhide HB4).cell_some k3 (by simp)) ((unhide HB4).cell_some k4 (by simp)) (unhide C4) (unhide C5) (fun W hb => unhide AM W _ _ r4 x4 y4 none r5 x5 y5 none q4 q5 ((unhide KI4).but hb) (unhide F4 W) (unhide F5 W) ((unhide LEN).1.mono (by omega)) ((unhide LEN).2.1.mono (by omega))) ?_
   intro w5 g22 v7 v8 v9 v12 s7 x7 y7 p7 hb5 hB5 hp5 hf5
   simp only [putted,List.foldl_cons,List.foldl_nil,Act.put,List.setIfInBounds_toArray,List.set_cons_zero,List.set_cons_succ]
   have HB5:=hide ((unhide HB4).trans' hb5)
   have X185:=hide ((unhide X184).but hb5 (by simp) (by simp))
   have H25:=hide ((unhide H24).but hb5)
   have Y205:=hide ((unhide Y20).but hb5)
   have P22:=hide hp5
   have F22:=hide hf5
   clear hb5 hp5 hf5 HB4 X184 H24 Y20 KI4 AM C4 C5 F4 F5 k1 k2 k3 k4 CW1 hB5
   go_wp2
   refine test_region13 13 _ _ w5 ev e (by simp) (by simp [Act.eval]) (by simp [Act.eval]) (by simp [Act.eval]) (unhide HEV) (fun W hb => unhide HALF W ((unhide BW1).trans' ((unhide HB5).trans' hb))) ?_
   intro w6 hb6
   simp only [putted,List.foldl_cons,List.foldl_nil,Act.put,List.setIfInBounds_toArray,List.set_cons_zero,List.set_cons_succ]
   have HB6:=hide ((unhide HB5).trans' hb6)
   have X186:=hide ((unhide X185).but hb6 (by simp) (by simp))
   have H26:=hide ((unhide H25).but hb6)
   have Y206:=hide ((unhide Y205).but hb6)
   have P226:=hide ((unhide P22).but hb6 (by simp))
   have F226:=hide ((unhide F22).but hb6)
   clear hb6 HB5 X185 H25 Y205 P22 F22 HALF
   go_wp2
   refine best_either 15 _ _ w6 ev e g18 g20 g22 (by simp) (by simp [Act.eval]) (by simp [Act.eval]) (by simp [Act.eval]) (by simp [Act.eval]) (unhide HEV) (fun he => ?_) ?_
   ·obtain ⟨-,hb,lo1,lo2⟩:=unhide BEST he
    obtain ⟨⟨s3,x3,y3,p3,P20,F20⟩,-⟩:=unhide Y206
    exact best_ok w6 g18 g20 g22 q4 q5 lb lo AA hb lo1 lo2 (unhide LEN) s3 x3 y3 p3 s7 x7 y7 p7 s2 x2 y2 p2 P20 (unhide P226) ⟨(unhide X186).cells 4 _ rfl,(unhide X186).cells 5 _ rfl,(unhide X186).cells 6 _ rfl,(unhide X186).cells 7 _ rfl⟩ F20 (unhide F226) (unhide H26)
   intro w7 w115 w116 w117 w118 w119 w120 w121 w122 w123 w124 w125 w126 w127 w128 w129 w130 w131 w132 w133 w134 hb7
   simp only [putted,List.foldl_cons,List.foldl_nil,Act.put,List.setIfInBounds_toArray,List.set_cons_zero,List.set_cons_succ]
   have HB7:=hide ((unhide HB6).trans' hb7)
   clear hb7 HB6 X186 H26 Y206 P226 F226 BEST
   go_wp2_with fail
   refine (unhide ROWS _ ((unhide BW1).trans' (unhide HB7))).mono ?_
   rintro e8 w8 ⟨vR,rfl,hL8,hb8⟩
   obtain ⟨aR,cR,rfl⟩:=unhide FORM _ _ hL8
   have HB8:=hide ((unhide HB7).trans' hb8)
   have HL8:=hide hL8
   clear hL8 hb8 HB7 ROWS FORM
   go_wp2_with fail
   rcases unhide EST with ⟨z,he⟩ | ⟨hn6,fA,fW,fB,fO,F,hsum,l1,l2,l3,he⟩
   ·refine (he _ _ _ (unhide HL8)).mono ?_
    rintro e9 w9 ⟨s1,x1,y1,p1,s2,x2,y2,p2,s3,x3,y3,p3,s4,x4,y4,p4,rfl,hb9⟩
    have HB9 : Hid (But [] W1 (w9.alloc (.cells #[.bool s1,.int .u64 x1,.int .u64 y1,.pointer p1,.bool s2,.int .u64 x2,.int .u64 y2,.pointer p2,.bool s3,.int .u64 x3,.int .u64 y3,.pointer p3,.bool s4,.int .u64 x4,.int .u64 y4,.pointer p4,.slice none 0 0] 86))):=((unhide HB8).trans' hb9).trans' ((But.refl _ _).alloc _)
    clear hb9 he HL8 HB8 EST
    go_wp2
    go_ret
    exact ⟨rfl,(unhide BW1).trans' (unhide HB9)⟩
   ·refine (he _ _ _ (unhide HL8)).mono ?_
    rintro e9 w9 ⟨vF,rfl,⟨s1,x1,y1,p1,s2,x2,y2,p2,s3,x3,y3,p3,s4,x4,y4,p4,g,rfl,h1,-,-,-,hR,-,hg⟩,hb9⟩
    have bA9 : But [] w9 (w9.alloc (.cells #[.bool s1,.int .u64 x1,.int .u64 y1,.pointer p1,.bool s2,.int .u64 x2,.int .u64 y2,.pointer p2,.bool s3,.int .u64 x3,.int .u64 y3,.pointer p3,.bool s4,.int .u64 x4,.int .u64 y4,.pointer p4,.slice (some ⟨g,0,none⟩) n6 n6] 86)):=(But.refl _ _).alloc _
    have HB9 : Hid (But [] W1 (w9.alloc (.cells #[.bool s1,.int .u64 x1,.int .u64 y1,.pointer p1,.bool s2,.int .u64 x2,.int .u64 y2,.pointer p2,.bool s3,.int .u64 x3,.int .u64 y3,.pointer p3,.bool s4,.int .u64 x4,.int .u64 y4,.pointer p4,.slice (some ⟨g,0,none⟩) n6 n6] 86))):=((unhide HB8).trans' hb9).trans' bA9
    have H1:=hide (h1.but bA9)
    have X24 : Hid (SBox (w9.alloc (.cells #[.bool s1,.int .u64 x1,.int .u64 y1,.pointer p1,.bool s2,.int .u64 x2,.int .u64 y2,.pointer p2,.bool s3,.int .u64 x3,.int .u64 y3,.pointer p3,.bool s4,.int .u64 x4,.int .u64 y4,.pointer p4,.slice (some ⟨g,0,none⟩) n6 n6] 86)) w9.heap.size [.bool s1,.int .u64 x1,.int .u64 y1,.pointer p1,.bool s2,.int .u64 x2,.int .u64 y2,.pointer p2,.bool s3,.int .u64 x3,.int .u64 y3,.pointer p3,.bool s4,.int .u64 x4,.int .u64 y4,.pointer p4,.slice (some ⟨g,0,none⟩) n6 n6]):=SBox.new w9 _ _
    have SU:=hide (keepSumL_any g 0 n6 n6 ((List.range n6).map F) _ (row_fracs (hR.but bA9 hg)) (by omega) (fun k hk => by rw [atR_map F n6 k hk]; exact (l2 k hk).mono (by omega)) (fun k hk => by rw [sg_row F n6 k hk]; exact (l3 k hk).mono (by omega)))
    rw [sg_row F n6 n6 (Nat.le_refl _),hsum] at SU
    have ls:=l3 n6 (Nat.le_refl _)
    rw [hsum] at ls
    have LL:=hide (And.intro l1 ls)
    clear hb9 he HL8 HB8 EST h1 hR hg bA9 l1 l2 l3 ls hsum
    go_wp2_with fail
    generalize w9.heap.size = g24 at *
    generalize w9.alloc (.cells #[.bool s1,.int .u64 x1,.int .u64 y1,.pointer p1,.bool s2,.int .u64 x2,.int .u64 y2,.pointer p2,.bool s3,.int .u64 x3,.int .u64 y3,.pointer p3,.bool s4,.int .u64 x4,.int .u64 y4,.pointer p4,.slice (some ⟨g,0,none⟩) n6 n6] 86) = V9 at *
    refine (unhide SU).mono ?_
    rintro e10 w10 ⟨v10,rfl,hf10,hb10⟩
    obtain ⟨ws,wx,FW,CW⟩:=whole_is (n6 : Int) (by omega) (by omega)
    have CW:=hide CW
    have HB10:=hide ((unhide HB9).trans' hb10)
    have X2410:=hide ((unhide X24).but hb10 (by simp) (by simp))
    have H110:=hide ((unhide H1).but hb10)
    have H10:=hide hf10
    clear hf10 hb10 HB9 X24 H1 SU
    go_wp2_with fail
    refine (unhide CW _).mono ?_
    rintro e11 w11 ⟨rfl,hb11⟩
    have DI:=hide (fracDiv_any _ _ _ _ w11 ((unhide H10).but hb11) (FW w11) ((unhide LL).2.mono (by omega)) ((len_int (n6 : Int) (by omega)).mono (by omega)) (by rw [(int_parts (n6 : Int)).1]; omega))
    have hne : (((n6 : Nat) : Int) : Rat) ≠ 0:=fun e => by
     have:=int_pos (n:=n6) (by omega)
     rw [e] at this
     exact absurd this (by decide)
    rw [show fA * (((n6 : Nat) : Int) : Rat) / (((n6 : Nat) : Int) : Rat) = fA from Rat.mul_div_cancel hne] at DI
    have HB11:=hide ((unhide HB10).trans' hb11)
    have X2411:=hide ((unhide X2410).but hb11 (by simp) (by simp))
    have H111:=hide ((unhide H110).but hb11)
    clear hb11 HB10 X2410 H110 H10 CW FW hne
    go_wp2_with fail
    refine (unhide DI).mono ?_
    rintro e12 w12 ⟨v12',rfl,hf12,hb12⟩
    obtain ⟨x8,y8,p8,rfl,-⟩:=id hf12.agg
    generalize decide (fA.num < 0) = s8 at *
    have bA12 : But [] w12 (w12.alloc (.cells #[.bool s8,.int .u64 x8,.int .u64 y8,.pointer p8] 29)):=(But.refl _ _).alloc _
    have bs12:=hb12.trans' bA12
    have HB12:=hide ((unhide HB11).trans' bs12)
    have X2412:=(unhide X2411).but bs12 (by simp) (by simp)
    have LK:=hide (like_len _ _ fA _ (hf12.but bA12) ((unhide H111).but bs12) ((unhide LL).1.mono (by omega)) (TabIs.but (unhide HT) ((unhide BW1).trans' (unhide HB12))))
    have m0:=X2412.cells 0 _ rfl
    have m1:=X2412.cells 1 _ rfl
    have m2:=X2412.cells 2 _ rfl
    have m3:=X2412.cells 3 _ rfl
    have m16:=X2412.cells 16 _ rfl
    clear hb12 hf12 bA12 bs12 HB11 X2411 X2412 H111 DI LL HT
    go_wp2_with fail
    refine (unhide LK).mono ?_
    rintro e13 w13 ⟨rfl,hb13⟩
    have HB13:=hide ((unhide HB12).trans' hb13)
    clear hb13 HB12 LK m0 m1 m2 m3 m16
    go_wp2
    go_ret
    exact ⟨rfl,(unhide BW1).trans' (unhide HB13)⟩
end Go.Proofs.YtloojmaamaambaaGreatDoor
