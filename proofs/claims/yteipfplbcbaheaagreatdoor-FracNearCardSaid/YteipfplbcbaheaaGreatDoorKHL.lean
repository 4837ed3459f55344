/- Which of two marks is the nearer one, as the Go text of package frac asks. -/
import Derived.Test.YteipfplbcbaheaaGreatDoorKH7
import Derived.Test.YteipfplbcbaheaaGreatDoorKHB
import Derived.Test.YteipfplbcbaheaaGreatDoorKM2
namespace Go.Proofs.YteipfplbcbaheaaGreatDoor
open Go.RowKit

/-- what the call leaves: which one comes first -/
def NearPost (w : World) (f xa xb : Rat) (e : Ending) (w' : World) : Prop:=∃ b,e = .returned (.bool b)∧(b = true→Bef f xa xb)∧(b = false→Bef f xb xa)∧But [] w w'
theorem len_abs {f : Rat} {n : Nat} (h : Len f n) : Len (absR f) n:=by
 obtain ⟨a1,a2,-⟩:=absR_facts f
 unfold Len
 rw [a1,a2]
 exact h
theorem cmpZ_cases (x y : Rat) (r : Int) (hr : r = cmpZ (x.num * (y.den : Int)) (y.num * (x.den : Int))) : (r = 0→x = y)∧(r < 0→x < y)∧(0 < r→y < x):=by
 have h1:=cmp_le x y
 have h2 : (y ≤ x) ↔ 0 ≤ r:=by
  rw [Rat.le_iff,hr]
  unfold cmpZ
  constructor
  ·intro h
   rw [if_neg (by omega)]
   split <;> omega
  ·intro h
   by_cases h3 : x.num * (y.den : Int) < y.num * (x.den : Int)
   ·rw [if_pos h3] at h; omega
   ·omega
 rw [← hr] at h1
 refine ⟨fun e => Rat.le_antisymm (h1.1 (by omega)) (h2.2 (by omega)),fun e => ?_,fun e => ?_⟩
 ·have h3 : ¬ y ≤ x:=fun k => by have:=h2.1 k; omega
  grind
 ·have h3 : ¬ x ≤ y:=fun k => by have:=h1.2 k; omega
  grind

set_option maxHeartbeats 16000000 in
set_option maxRecDepth 100000 in
theorem nearer_any (va vb : Value) (Oa Ob : Int) (ua ub : Nat) (f : Rat) (gp : Nat) (fs : Bool) (fx fy : Int) (w : World) (ha : MarkAt w va Oa ua) (hb : MarkAt w vb Ob ub) (ha0 : 0 < ua) (ha1 : ua ≤ 1000000) (hb0 : 0 < ub) (hb1 : ub ≤ 1000000) (la : Len ((Oa : Int) : Rat) 20) (lb : Len ((Ob : Int) : Rat) 20)
  (hf : ∀ W,FracAt W (.agg #[.bool fs,.int .u64 fx,.int .u64 fy,.pointer none]) f) (lf : Len f 1) (hc : P4 w gp fs fx fy none) (hda : ((Oa : Rat) * (((ua : Int) : Rat))⁻¹).den = ua) (hdb : ((Ob : Rat) * (((ub : Int) : Rat))⁻¹).den = ub) :
  Calls Tryz.prog 113 #[va,vb,.pointer (some ⟨gp,0,none⟩)] w fun e w' => NearPost w f ((Oa : Rat) * (((ua : Int) : Rat))⁻¹) ((Ob : Rat) * (((ub : Int) : Rat))⁻¹) e w':=by
 have VA:=hide (fun W (h : But [] w W) => markValue_any va Oa ua W (ha.but h) ha0 ha1 (la.mono (by omega)))
 have VB:=hide (fun W (h : But [] w W) => markValue_any vb Ob ub W (hb.but h) hb0 hb1 (lb.mono (by omega)))
 have l1:=len_mul la (len_inv (int_len (ua : Int) (by omega) (by omega)) (inv_num_one ua ha0)) 21 (by omega)
 have l2:=len_mul lb (len_inv (int_len (ub : Int) (by omega) (by omega)) (inv_num_one ub hb0)) 21 (by omega)
 obtain ⟨d1,hd1⟩ : ∃ d1,d1 = (Oa : Rat) * (((ua : Int) : Rat))⁻¹:=⟨_,rfl⟩
 obtain ⟨d2,hd2⟩ : ∃ d2,d2 = (Ob : Rat) * (((ub : Int) : Rat))⁻¹:=⟨_,rfl⟩
 rw [← hd1] at VA l1 hda ⊢
 rw [← hd2] at VB l2 hdb ⊢
 have DEN:=hide (And.intro hda hdb)
 clear hda hdb
 obtain ⟨s1,x1,y1,p1,rfl,-⟩:=ha
 obtain ⟨s2,x2,y2,p2,rfl,-⟩:=hb
 have t1:=len_abs (len_sub l1 lf 23 (by omega))
 have t2:=len_abs (len_sub l2 lf 23 (by omega))
 have HA1:=hide (fun W v (h : FracAt W v (d1 - f)) => fracAbs_any v (d1 - f) W h)
 have HA2:=hide (fun W v (h : FracAt W v (d2 - f)) => fracAbs_any v (d2 - f) W h)
 have A1 : Hid (∀ W v,FracAt W v (d1 - f)→Calls Tryz.prog 96 #[v] W fun e w' => ∃ v',e = .returned v'∧FracAt w' v' (dist d1 f)∧But [] W w'):=unhide HA1
 have A2 : Hid (∀ W v,FracAt W v (d2 - f)→Calls Tryz.prog 96 #[v] W fun e w' => ∃ v',e = .returned v'∧FracAt w' v' (dist d2 f)∧But [] W w'):=unhide HA2
 clear HA1 HA2
 obtain ⟨r,hr⟩ : ∃ r,r = cmpZ ((dist d1 f).num * ((dist d2 f).den : Int)) ((dist d2 f).num * ((dist d1 f).den : Int)):=⟨_,rfl⟩
 have C5 : Hid (∀ W v v',FracAt W v (dist d1 f)→FracAt W v' (dist d2 f)→Calls Tryz.prog 26 #[v,v'] W fun e w' => e = .returned (.int .i64 r)∧But [] W w'):=fun W v v' h1 h2 => fracCmp_any v v' _ _ W h1 h2 (t1.mono (by omega)) (t2.mono (by omega)) r hr
 have RC:=hide (cmpZ_cases _ _ r hr)
 obtain ⟨r2,hr2⟩ : ∃ r2,r2 = cmpZ (d1.num * (d2.den : Int)) (d2.num * (d1.den : Int)):=⟨_,rfl⟩
 have RC2:=hide (cmpZ_cases _ _ r2 hr2)
 have SF : Hid (∀ (x : Rat) (v : Value),Len x 21→∀ W,FracAt W v x→Calls Tryz.prog 16 #[v,.agg #[.bool fs,.int .u64 fx,.int .u64 fy,.pointer none]] W fun e w' => ∃ v',e = .returned v'∧FracAt w' v' (x - f)∧But [] W w'):=fun x v lx W h => fracSub_any v _ x f W h (hf W) (lx.mono (by omega)) (lf.mono (by omega))
 have CF : Hid (∀ W v v',FracAt W v d1→FracAt W v' d2→Calls Tryz.prog 26 #[v,v'] W fun e w' => e = .returned (.int .i64 r2)∧But [] W w'):=fun W v v' h1 h2 => fracCmp_any v v' _ _ W h1 h2 (l1.mono (by omega)) (l2.mono (by omega)) r2 hr2
 have LL : Hid (Len d1 21∧Len d2 21):=⟨l1,l2⟩
 clear hd1 hd2 l1 l2 t1 t2 hr hr2 la lb hf lf
 obtain ⟨W,hW⟩ : ∃ W,W = (w.alloc (.cells #[.bool s1,.int .u64 x1,.int .u64 y1,.pointer p1,.int .i64 (ua : Int)] 145)).alloc (.cells #[.bool s2,.int .u64 x2,.int .u64 y2,.pointer p2,.int .i64 (ub : Int)] 145):=⟨_,rfl⟩
 obtain ⟨tA,tB,-,-,hB⟩:=two_news w W _ _ _ _ hW
 have CA : Hid (P5 W w.heap.size s1 x1 y1 p1 (ua : Int)):=⟨tA 0,tA 1,tA 2,tA 3,tA 4⟩
 have CB : Hid (P5 W (w.heap.size + 1) s2 x2 y2 p2 (ub : Int)):=⟨tB 0,tB 1,tB 2,tB 3,tB 4⟩
 obtain ⟨f0,f1,f2,f3⟩:=hc.but hB (by simp)
 have HW:=hide hW
 have HB:=hide hB
 clear hW hB tA tB hc
 go_enter Tryz.func113,Tryz.ntmps113
 go_wp2_with fail
 rw [← unhide HW]
 obtain ⟨ga,hga⟩ : ∃ ga,ga = w.heap.size:=⟨_,rfl⟩
 obtain ⟨gb,hgb⟩ : ∃ gb,gb = w.heap.size + 1:=⟨_,rfl⟩
 rw [← hgb,← hga]
 rw [← hga] at CA
 rw [← hgb] at CB
 clear hga hgb HW
 go_cut [6,7] (fun s6 s7 wx => ∃ (gx gy : Nat) (sx : Bool) (xx yx : Int) (px : Option Addr) (sy : Bool) (xy yy : Int) (py : Option Addr),s6 = .pointer (some ⟨gx,0,none⟩)∧s7 = .pointer (some ⟨gy,0,none⟩)∧Hid (But [] W wx∧P4 wx gx sx xx yx px∧P4 wx gy sy xy yy py∧FracAt wx (.agg #[.bool sx,.int .u64 xx,.int .u64 yx,.pointer px]) d1∧FracAt wx (.agg #[.bool sy,.int .u64 xy,.int .u64 yy,.pointer py]) d2))
 case first =>
  have VX : Hid (∀ wq,But [] W wq→Calls Tryz.prog 114 #[.agg #[.bool s1,.int .u64 x1,.int .u64 y1,.pointer p1,.int .i64 (ua : Int)]] wq fun e w' => ∃ v,e = .returned v∧FracOf d1 w' v∧But [] wq w'):=fun wq hq => (unhide VA wq ((unhide HB).trans' hq)).mono fun e w' ⟨v,he,hv,hb'⟩ => by
   obtain ⟨x,y,p,e',-⟩:=hv.agg
   exact ⟨v,he,⟨⟨_,x,y,p,e'⟩,hv⟩,hb'⟩
  have VY : Hid (∀ wq,But [] W wq→Calls Tryz.prog 114 #[.agg #[.bool s2,.int .u64 x2,.int .u64 y2,.pointer p2,.int .i64 (ub : Int)]] wq fun e w' => ∃ v,e = .returned v∧FracOf d2 w' v∧But [] wq w'):=fun wq hq => (unhide VB wq ((unhide HB).trans' hq)).mono fun e w' ⟨v,he,hv,hb'⟩ => by
   obtain ⟨x,y,p,e',-⟩:=hv.agg
   exact ⟨v,he,⟨⟨_,x,y,p,e'⟩,hv⟩,hb'⟩
  refine values_region 1 _ W _ ga gb s1 x1 y1 (ua : Int) p1 s2 x2 y2 (ub : Int) p2 d1 d2 (by simp) (by simp [Act.eval]) (by simp [Act.eval]) (unhide CA) (unhide CB) (unhide VX) (unhide VY) ?_
  rintro w' vx vy b6 b7 h1 ⟨⟨sx,xx,yx,px,rfl⟩,h2⟩ ⟨⟨sy,xy,yy,py,rfl⟩,h3⟩ - - h4 h5
  have HL : Hid (But [] W w'∧P4 w' b6 sx xx yx px∧P4 w' b7 sy xy yy py∧FracAt w' (.agg #[.bool sx,.int .u64 xx,.int .u64 yx,.pointer px]) d1∧FracAt w' (.agg #[.bool sy,.int .u64 xy,.int .u64 yy,.pointer py]) d2):=⟨(But.refl [] W).drew.trans' h1,h4.p4,h5.p4,h2,h3⟩
  clear h1 h2 h3 h4 h5
  simp only [putted,List.foldl_cons,List.foldl_nil,Act.put,List.setIfInBounds_toArray,List.set_cons_zero,List.set_cons_succ]
  go_wp2_with fail
  go_meet
  exact ⟨b6,b7,_,_,_,_,_,_,_,_,rfl,rfl,unhide HL⟩
 case rest =>
  obtain ⟨gx,gy,sx,xx,yx,px,sy,xy,yy,py,rfl,rfl,HC⟩:=hcut
  have bC:=(unhide HC).1
  replace f0:=bC.cell_some f0 (by simp)
  replace f1:=bC.cell_some f1 (by simp)
  replace f2:=bC.cell_some f2 (by simp)
  replace f3:=bC.cell_some f3 (by simp)
  obtain ⟨x0,x1,x2,x3⟩:=(unhide HC).2.1
  obtain ⟨y0,y1,y2,y3⟩:=(unhide HC).2.2.1
  obtain ⟨A4,A5⟩ : (∃ q,q = wc.cell? ⟨ga,4,none⟩)∧True:=⟨⟨_,rfl⟩,trivial⟩
  have a4:=((unhide CA).but bC (by simp)).2.2.2.2
  have b4:=((unhide CB).but bC (by simp)).2.2.2.2
  have S1 : Hid (∀ W',But [] wc W'→Calls Tryz.prog 16 #[.agg #[.bool sx,.int .u64 xx,.int .u64 yx,.pointer px],.agg #[.bool fs,.int .u64 fx,.int .u64 fy,.pointer none]] W' fun e w' => ∃ v',e = .returned v'∧FracAt w' v' (d1 - f)∧But [] W' w'):=fun W' hb => unhide SF d1 _ (unhide LL).1 W' ((unhide HC).2.2.2.1.but hb)
  have S2 : Hid (∀ W',But [] wc W'→Calls Tryz.prog 16 #[.agg #[.bool sy,.int .u64 xy,.int .u64 yy,.pointer py],.agg #[.bool fs,.int .u64 fx,.int .u64 fy,.pointer none]] W' fun e w' => ∃ v',e = .returned v'∧FracAt w' v' (d2 - f)∧But [] W' w'):=fun W' hb => unhide SF d2 _ (unhide LL).2 W' ((unhide HC).2.2.2.2.but hb)
  have C6 : Hid (∀ W',But [] wc W'→Calls Tryz.prog 26 #[.agg #[.bool sx,.int .u64 xx,.int .u64 yx,.pointer px],.agg #[.bool sy,.int .u64 xy,.int .u64 yy,.pointer py]] W' fun e w' => e = .returned (.int .i64 r2)∧But [] W' w'):=fun W' hb => unhide CF W' _ _ ((unhide HC).2.2.2.1.but hb) ((unhide HC).2.2.2.2.but hb)
  have HBw : Hid (But [] w wc):=(unhide HB).trans' bC
  have H0 : Hid (But [] wc wc):=But.refl _ _
  clear bC HC CA CB SF CF LL HB VA VB A4 A5
  go_wp2_with fail
  go_cut [8] (fun s8 wx => s8 = .int .i64 r∧Hid (But [] wc wx))
  case first =>
   go_region_held (fun w' => w'.cell? ⟨gx,0,none⟩ = some (.bool sx)∧w'.cell? ⟨gx,1,none⟩ = some (.int .u64 xx)∧w'.cell? ⟨gx,2,none⟩ = some (.int .u64 yx)∧w'.cell? ⟨gx,3,none⟩ = some (.pointer px)∧w'.cell? ⟨gy,0,none⟩ = some (.bool sy)∧w'.cell? ⟨gy,1,none⟩ = some (.int .u64 xy)∧w'.cell? ⟨gy,2,none⟩ = some (.int .u64 yy)∧w'.cell? ⟨gy,3,none⟩ = some (.pointer py)∧w'.cell? ⟨gp,0,none⟩ = some (.bool fs)∧w'.cell? ⟨gp,1,none⟩ = some (.int .u64 fx)∧w'.cell? ⟨gp,2,none⟩ = some (.int .u64 fy)∧w'.cell? ⟨gp,3,none⟩ = some (.pointer none)) (go_keep) (first
    | (go_at_call 26; have hchk:=B4; clear hchk; refine (unhide C5 _ v2 v4 (by first | exact unhide HN2 | exact (unhide HN2).but (But.refl _ _).drew) (by first | exact unhide HN4 | exact (unhide HN4).but (But.refl _ _).drew)).mono ?_; rintro e w5 ⟨rfl,hc5⟩; have B5 : But [] wc w5:=(by first | exact B4.trans' hc5 | exact (B4.drew).trans' hc5); clear HN2 HN4; clear hc5; have x0_5:=B5.cell_some x0 (by simp); have x1_5:=B5.cell_some x1 (by simp); have x2_5:=B5.cell_some x2 (by simp); have x3_5:=B5.cell_some x3 (by simp); have y0_5:=B5.cell_some y0 (by simp); have y1_5:=B5.cell_some y1 (by simp); have y2_5:=B5.cell_some y2 (by simp); have y3_5:=B5.cell_some y3 (by simp); have f0_5:=B5.cell_some f0 (by simp); have f1_5:=B5.cell_some f1 (by simp); have f2_5:=B5.cell_some f2 (by simp); have f3_5:=B5.cell_some f3 (by simp); clear x0_4 x1_4 x2_4 x3_4 y0_4 y1_4 y2_4 y3_4 f0_4 f1_4 f2_4 f3_4)
    | (go_at_call 96; have hchk:=B3; clear hchk; refine (unhide A2 _ v3 (by first | exact unhide HN3 | exact (unhide HN3).but (But.refl _ _).drew)).mono ?_; rintro e w4 ⟨v4,rfl,hn4,hc4⟩; have B4 : But [] wc w4:=(by first | exact B3.trans' hc4 | exact (B3.drew).trans' hc4); replace HN2 : Hid (FracAt w4 v2 (dist d1 f)):=(by first | exact (unhide HN2).but hc4 | exact ((unhide HN2).but (But.refl _ _).drew).but hc4); have HN4:=hide hn4; clear hn4; clear HN3; clear hc4; have x0_4:=B4.cell_some x0 (by simp); have x1_4:=B4.cell_some x1 (by simp); have x2_4:=B4.cell_some x2 (by simp); have x3_4:=B4.cell_some x3 (by simp); have y0_4:=B4.cell_some y0 (by simp); have y1_4:=B4.cell_some y1 (by simp); have y2_4:=B4.cell_some y2 (by simp); have y3_4:=B4.cell_some y3 (by simp); have f0_4:=B4.cell_some f0 (by simp); have f1_4:=B4.cell_some f1 (by simp); have f2_4:=B4.cell_some f2 (by simp); have f3_4:=B4.cell_some f3 (by simp); clear x0_3 x1_3 x2_3 x3_3 y0_3 y1_3 y2_3 y3_3 f0_3 f1_3 f2_3 f3_3)
    | (go_at_call 16; have hchk:=B2; clear hchk; refine (unhide S2 _ (by first | exact (unhide H0).trans' B2 | exact ((unhide H0).trans' B2).drew)).mono ?_; rintro e w3 ⟨v3,rfl,hn3,hc3⟩; have B3 : But [] wc w3:=(by first | exact B2.trans' hc3 | exact (B2.drew).trans' hc3); replace HN2 : Hid (FracAt w3 v2 (dist d1 f)):=(by first | exact (unhide HN2).but hc3 | exact ((unhide HN2).but (But.refl _ _).drew).but hc3); have HN3:=hide hn3; clear hn3; clear hc3; have x0_3:=B3.cell_some x0 (by simp); have x1_3:=B3.cell_some x1 (by simp); have x2_3:=B3.cell_some x2 (by simp); have x3_3:=B3.cell_some x3 (by simp); have y0_3:=B3.cell_some y0 (by simp); have y1_3:=B3.cell_some y1 (by simp); have y2_3:=B3.cell_some y2 (by simp); have y3_3:=B3.cell_some y3 (by simp); have f0_3:=B3.cell_some f0 (by simp); have f1_3:=B3.cell_some f1 (by simp); have f2_3:=B3.cell_some f2 (by simp); have f3_3:=B3.cell_some f3 (by simp); clear x0_2 x1_2 x2_2 x3_2 y0_2 y1_2 y2_2 y3_2 f0_2 f1_2 f2_2 f3_2)
    | (go_at_call 96; have hchk:=B1; clear hchk; refine (unhide A1 _ v1 (by first | exact unhide HN1 | exact (unhide HN1).but (But.refl _ _).drew)).mono ?_; rintro e w2 ⟨v2,rfl,hn2,hc2⟩; have B2 : But [] wc w2:=(by first | exact B1.trans' hc2 | exact (B1.drew).trans' hc2); have HN2:=hide hn2; clear hn2; clear HN1; clear hc2; have x0_2:=B2.cell_some x0 (by simp); have x1_2:=B2.cell_some x1 (by simp); have x2_2:=B2.cell_some x2 (by simp); have x3_2:=B2.cell_some x3 (by simp); have y0_2:=B2.cell_some y0 (by simp); have y1_2:=B2.cell_some y1 (by simp); have y2_2:=B2.cell_some y2 (by simp); have y3_2:=B2.cell_some y3 (by simp); have f0_2:=B2.cell_some f0 (by simp); have f1_2:=B2.cell_some f1 (by simp); have f2_2:=B2.cell_some f2 (by simp); have f3_2:=B2.cell_some f3 (by simp); clear x0_1 x1_1 x2_1 x3_1 y0_1 y1_1 y2_1 y3_1 f0_1 f1_1 f2_1 f3_1)
    | (go_at_call 16; refine (unhide S1 _ (by first | exact unhide H0 | exact (unhide H0).drew)).mono ?_; rintro e w1 ⟨v1,rfl,hn1,hc1⟩; have B1 : But [] wc w1:=(by first | exact hc1 | exact (But.refl _ _).drew.trans' hc1); have HN1:=hide hn1; clear hn1; clear hc1; have x0_1:=B1.cell_some x0 (by simp); have x1_1:=B1.cell_some x1 (by simp); have x2_1:=B1.cell_some x2 (by simp); have x3_1:=B1.cell_some x3 (by simp); have y0_1:=B1.cell_some y0 (by simp); have y1_1:=B1.cell_some y1 (by simp); have y2_1:=B1.cell_some y2 (by simp); have y3_1:=B1.cell_some y3 (by simp); have f0_1:=B1.cell_some f0 (by simp); have f1_1:=B1.cell_some f1 (by simp); have f2_1:=B1.cell_some f2 (by simp); have f3_1:=B1.cell_some f3 (by simp)))
   all_goals (
    have HB5:=hide B5
    clear B1 B2 B3 B4 B5
    go_wp2_with fail
    go_meet
    exact ⟨rfl,unhide HB5⟩)
  case rest =>
   obtain ⟨rfl,HD⟩:=hcut
   rename World => wd
   have hD:=unhide HD
   replace x0:=hD.cell_some x0 (by simp)
   replace x1:=hD.cell_some x1 (by simp)
   replace x2:=hD.cell_some x2 (by simp)
   replace x3:=hD.cell_some x3 (by simp)
   replace y0:=hD.cell_some y0 (by simp)
   replace y1:=hD.cell_some y1 (by simp)
   replace y2:=hD.cell_some y2 (by simp)
   replace y3:=hD.cell_some y3 (by simp)
   replace a4:=hD.cell_some a4 (by simp)
   replace b4:=hD.cell_some b4 (by simp)
   have HBd : Hid (But [] w wd):=(unhide HBw).trans' hD
   clear hD f0 f1 f2 f3 S1 S2 A1 A2 C5 H0 HBw
   by_cases hr0 : r = 0
   ·subst hr0
    have BO : Hid (dist d1 f = dist d2 f):=(unhide RC).1 rfl
    clear RC
    by_cases hu : ua = ub
    ·have e1 : IntKind.i64.wrap ((ua : Int) - (ub : Int)) = 0:=by rw [IntKind.wrap_i64]; omega
     have DE : Hid (d1.den = d2.den):=by
      show _ = _
      rw [(unhide DEN).1,(unhide DEN).2,hu]
     clear DEN
     subst hu
     go_wp2_with fail
     refine (unhide C6 _ (unhide HD)).mono ?_
     rintro e9 w9 ⟨rfl,hb9⟩
     have HF : Hid (But [] w w9):=(unhide HBd).trans' hb9
     clear hb9
     go_wp2
     go_ret
     exact ⟨_,rfl,fun e => .inr ⟨unhide BO,.inr ⟨unhide DE,by have:=(unhide RC2).2.1 (by simpa using e); grind⟩⟩,fun e => .inr ⟨(unhide BO).symm,.inr ⟨(unhide DE).symm,by
      have hn : ¬ r2 < 0:=by simpa using e
      by_cases h0 : r2 = 0
      ·rw [(unhide RC2).1 h0]; exact Rat.le_refl
      ·have:=(unhide RC2).2.2 (by omega)
       grind⟩⟩,unhide HF⟩
    ·obtain ⟨z,hz⟩ : ∃ z : Int,z = (ua : Int) - (ub : Int):=⟨_,rfl⟩
     have e1 : IntKind.i64.wrap ((ua : Int) - (ub : Int)) = z:=by rw [IntKind.wrap_i64,hz]; omega
     have e2 : ¬ z = 0:=by omega
     have e3 : (z == 0) = false:=beq_eq_false_iff_ne.2 e2
     have HZ:=hide hz
     clear hz hu
     go_wp2
     go_ret
     exact ⟨_,rfl,fun e => .inr ⟨unhide BO,.inl (by
      have h1 : z < 0:=by simpa using e
      rw [(unhide DEN).1,(unhide DEN).2]
      have:=unhide HZ
      omega)⟩,fun e => .inr ⟨(unhide BO).symm,.inl (by
      have h1 : ¬ z < 0:=by simpa using e
      rw [(unhide DEN).1,(unhide DEN).2]
      have:=unhide HZ
      omega)⟩,unhide HBd⟩
   ·have e3 : (r == 0) = false:=beq_eq_false_iff_ne.2 hr0
    go_wp2
    go_ret
    exact ⟨_,rfl,fun e => .inl ((unhide RC).2.1 (by simpa using e)),fun e => .inl ((unhide RC).2.2 (by
     have h1 : ¬ r < 0:=by simpa using e
     omega)),unhide HBd⟩
end Go.Proofs.YteipfplbcbaheaaGreatDoor

namespace Go.Proofs.YteipfplbcbaheaaGreatDoor
open Go.RowKit

/-- what the call leaves: a fraction than which none with such a lower number is nearer -/
def NearFin (w : World) (f : Rat) (most : Nat) (e : Ending) (w' : World) : Prop:=∃ v' x,e = .returned (.tuple #[v',.nilIface])∧FracAt w' v' x∧Len x 21∧x.den ≤ most∧(∀ y : Rat,y.den ≤ most→Bef f x y)∧But [] w w'
theorem mark_len (O : Int) (u : Nat) (h0 : 0 < u) (h1 : u ≤ 1000000) (l : Len ((O : Int) : Rat) 20) : Len ((O : Rat) * (((u : Int) : Rat))⁻¹) 21:=len_mul l (len_inv (int_len (u : Int) (by omega) (by omega)) (inv_num_one u h0)) 21 (by omega)

set_option maxHeartbeats 16000000 in
set_option maxRecDepth 100000 in
theorem near_any (f : Rat) (most : Nat) (fs : Bool) (fx fy : Int) (w : World) (hf : ∀ W,FracAt W (.agg #[.bool fs,.int .u64 fx,.int .u64 fy,.pointer none]) f) (hp : f.num.natAbs < 18446744073709551616) (hq : f.den < 18446744073709551616) (hm0 : 0 < most) (hm : most ≤ 1000000) :
  Calls Tryz.prog 47 #[.agg #[.bool fs,.int .u64 fx,.int .u64 fy,.pointer none],.int .i64 (most : Int)] w fun e w' => NearFin w f most e w':=by
 have lf : Len f 1:=len_of (m:=1) (n:=1) (by rw [Nat.pow_one]; exact hp) (by rw [Nat.pow_one]; exact hq) 1 (Nat.le_refl _) (Nat.le_refl _)
 have hK : (fl f).natAbs + 1 ≤ 18446744073709551616:=by have:=fl_le_abs f; omega
 have NB:=hide (fun W => neighbours_any _ f most W hf hp hq hm0 hm)
 have HF:=hide (And.intro hf (And.intro lf hK))
 have hmf : ∀ (fn : Fn) (first cap : Array Value) (w : World),(Instr.makeFunc fn first cap).run Tryz.prog w = .ok (.func fn first cap) w:=fun _ _ _ _ => rfl
 have c1 : ¬ (most : Int) < 1:=by omega
 have c2 : ¬ (1000000 : Int) < (most : Int):=by omega
 have c3 : ¬ 1000000 < most:=by omega
 have c4 : ¬ most < 1:=by omega
 clear hf hp hq lf hK
 obtain ⟨W,hW⟩ : ∃ W,W = (w.alloc (.cells #[.bool fs,.int .u64 fx,.int .u64 fy,.pointer none] 27)).alloc (.cells #[.bool false,.int .u64 0,.int .u64 0,.pointer none] 27):=⟨_,rfl⟩
 obtain ⟨tA,tC,-,fz,hB⟩:=two_news w W _ _ _ _ hW
 have a0:=tA 0
 have a1:=tA 1
 have a2:=tA 2
 have a3:=tA 3
 have CR : Hid (P4 W (w.heap.size + 1) false 0 0 none):=⟨tC 0,tC 1,tC 2,tC 3⟩
 have OR : Hid (Open W (w.heap.size + 1)):=fz
 simp only [List.getElem?_toArray,List.getElem?_cons_zero,List.getElem?_cons_succ] at a0 a1 a2 a3
 have HW:=hide hW
 have HB:=hide hB
 clear hW hB tA tC fz
 go_enter Tryz.func47,Tryz.ntmps47
 go_wp2_with fail
 rw [← unhide HW]
 obtain ⟨gf,hgf⟩ : ∃ gf,gf = w.heap.size:=⟨_,rfl⟩
 obtain ⟨gr,hgr⟩ : ∃ gr,gr = w.heap.size + 1:=⟨_,rfl⟩
 rw [← hgf] at a0 a1 a2 a3
 rw [← hgr] at CR OR
 rw [← hgr,← hgf]
 have HGR : Hid (w.heap.size ≤ gr):=by show _ ≤ _; omega
 have ngr : gf ≠ gr:=by omega
 clear hgf hgr HW
 refine (unhide NB _).mono ?_
 rintro e1 w1 ⟨va,vb,Oa,Ob,ua,ub,rfl,hA,hBm,hN,hb1⟩
 obtain ⟨ua0,uam,la,ub0,ubm,lb,hda,hdb,hbest⟩:=hN
 have lA : Len ((Oa : Int) : Rat) 20:=over_len Oa _ ua (unhide HF).2.2 (by omega) la
 have lB : Len ((Ob : Int) : Rat) 20:=over_len Ob _ ub (unhide HF).2.2 (by omega) lb
 obtain ⟨sa,xa,ya,pa,rfl,fa⟩:=id hA
 obtain ⟨sb,xb,yb,pb,rfl,fb⟩:=id hBm
 obtain ⟨V,hV⟩ : ∃ V,V = (w1.alloc (.cells #[.bool sa,.int .u64 xa,.int .u64 ya,.pointer pa,.int .i64 (ua : Int)] 145)).alloc (.cells #[.bool sb,.int .u64 xb,.int .u64 yb,.pointer pb,.int .i64 (ub : Int)] 145):=⟨_,rfl⟩
 obtain ⟨tA,tB,-,-,bV⟩:=two_news w1 V _ _ _ _ hV
 have m0:=tA 0
 have m1:=tA 1
 have m2:=tA 2
 have m3:=tA 3
 have m4:=tA 4
 have n0:=tB 0
 have n1:=tB 1
 have n2:=tB 2
 have n3:=tB 3
 have n4:=tB 4
 simp only [List.getElem?_toArray,List.getElem?_cons_zero,List.getElem?_cons_succ] at m0 m1 m2 m3 m4 n0 n1 n2 n3 n4
 have bW:=hb1.trans' bV
 have HAV:=hide (hA.but bV)
 have HBV:=hide (hBm.but bV)
 replace a0:=bW.cell_some a0 (by simp)
 replace a1:=bW.cell_some a1 (by simp)
 replace a2:=bW.cell_some a2 (by simp)
 replace a3:=bW.cell_some a3 (by simp)
 replace OR : Hid (Open V gr):=(unhide OR).but bW (unhide CR).lt (by simp)
 replace CR : Hid (P4 V gr false 0 0 none):=(unhide CR).but bW (by simp)
 replace HB : Hid (But [] w V):=(unhide HB).trans' bW
 have NE:=hide (nearer_any _ _ Oa Ob ua ub f gf fs fx fy V (unhide HAV) (unhide HBV) ua0 (by omega) ub0 (by omega) lA lB (unhide HF).1 (unhide HF).2.1 ⟨a0,a1,a2,a3⟩ hda hdb)
 have VA:=hide (fun W' (h : But [] V W') => markValue_any _ Oa ua W' ((unhide HAV).but h) ua0 (by omega) (lA.mono (by omega)))
 have VB:=hide (fun W' (h : But [] V W') => markValue_any _ Ob ub W' ((unhide HBV).but h) ub0 (by omega) (lB.mono (by omega)))
 have L1:=mark_len Oa ua ua0 (by omega) lA
 have L2:=mark_len Ob ub ub0 (by omega) lB
 obtain ⟨d1,hd1⟩ : ∃ d1,d1 = (Oa : Rat) * (((ua : Int) : Rat))⁻¹:=⟨_,rfl⟩
 obtain ⟨d2,hd2⟩ : ∃ d2,d2 = (Ob : Rat) * (((ub : Int) : Rat))⁻¹:=⟨_,rfl⟩
 rw [← hd1] at VA L1 NE hbest hda
 rw [← hd2] at VB L2 NE hbest hdb
 have LB:=hide (And.intro L1 (And.intro L2 (And.intro (show d1.den ≤ most by omega) (And.intro (show d2.den ≤ most by omega) hbest))))
 clear hda hdb hA hBm fa fb la lb lA lB hb1 bV bW tA tB HAV HBV L1 L2 hbest hd1 hd2 NB HF ua0 uam ub0 ubm c1 c2 c3 c4
 go_wp2_with fail
 rw [← hV]
 clear hV
 generalize w1.heap.size + 1 = gB at *
 generalize w1.heap.size = gA at *
 first
  | refine (unhide NE).mono ?_
  | (go_at_call 113; refine (unhide NE).mono ?_)
 rintro e2 w2 ⟨b,rfl,hbt,hbf,hb2⟩
 have HBT:=hide (And.intro hbt hbf)
 have K2:=hide hb2
 replace m0:=hb2.cell_some m0 (by simp)
 replace m1:=hb2.cell_some m1 (by simp)
 replace m2:=hb2.cell_some m2 (by simp)
 replace m3:=hb2.cell_some m3 (by simp)
 replace m4:=hb2.cell_some m4 (by simp)
 replace n0:=hb2.cell_some n0 (by simp)
 replace n1:=hb2.cell_some n1 (by simp)
 replace n2:=hb2.cell_some n2 (by simp)
 replace n3:=hb2.cell_some n3 (by simp)
 replace n4:=hb2.cell_some n4 (by simp)
 replace OR : ∀ j,w2.frozen? ⟨gr,j,none⟩ = false:=(unhide OR).but hb2 (unhide CR).lt (by simp)
 obtain ⟨r0,r1,r2,r3⟩:=(unhide CR).but hb2 (by simp)
 have H2 : Hid (But [] w w2):=(unhide HB).trans' hb2
 clear hb2 hbt hbf NE CR HB a0 a1 a2 a3
 cases b
 ·go_wp2_with fail
  refine (unhide VB _ (unhide K2)).mono ?_
  rintro e3 w3 ⟨v3,rfl,hv3,hb3⟩
  have HV3:=hide hv3
  obtain ⟨x8,y8,p8,rfl,-⟩:=hv3.agg
  generalize decide (d2.num < 0) = r8 at *
  have grl : gr < w2.heap.size:=lt_of_cell r0
  replace OR : ∀ j,w3.frozen? ⟨gr,j,none⟩ = false:=Open.but (w:=w2) (g:=gr) OR hb3 grl (by simp)
  replace r0:=hb3.cell_some r0 (by simp)
  replace r1:=hb3.cell_some r1 (by simp)
  replace r2:=hb3.cell_some r2 (by simp)
  replace r3:=hb3.cell_some r3 (by simp)
  have H3 : Hid (But [] w w3):=(unhide H2).trans' hb3
  have FIN : Hid (Len d2 21∧d2.den ≤ most∧∀ y : Rat,y.den ≤ most→Bef f d2 y):=by
   obtain ⟨l1,l2,m1,m2,hb⟩:=unhide LB
   have hB:=(unhide HBT).2 (by simp)
   refine ⟨l2,m2,fun y hy => ?_⟩
   rcases hb y hy with rfl | rfl | h | h
   ·exact hB
   ·exact Bef.refl _ _
   ·exact hB.of_lt h
   ·exact .inl h
  clear hb3 hv3 H2 K2 VA VB LB HBT m0 m1 m2 m3 m4 n0 n1 n2 n3 n4 grl
  go_wp2
  have hBg:=but_set4 w3 gr (.bool r8) (.int .u64 x8) (.int .u64 y8) (.pointer p8)
  exact bodyPost_ret (v:=.tuple #[.agg #[.bool r8,.int .u64 x8,.int .u64 y8,.pointer p8],.nilIface]) (by simp [results,Tryz.results47,go_sem,r0,r1,r2,r3]) rfl ⟨_,d2,rfl,(unhide HV3).over r0 hBg,(unhide FIN).1,(unhide FIN).2.1,(unhide FIN).2.2,(unhide H3).trans hBg (fun x hx => by simp at hx; subst hx; exact .inr (unhide HGR))⟩
 ·go_wp2_with fail
  refine (unhide VA _ (unhide K2)).mono ?_
  rintro e3 w3 ⟨v3,rfl,hv3,hb3⟩
  have HV3:=hide hv3
  obtain ⟨x8,y8,p8,rfl,-⟩:=hv3.agg
  generalize decide (d1.num < 0) = r8 at *
  have grl : gr < w2.heap.size:=lt_of_cell r0
  replace OR : ∀ j,w3.frozen? ⟨gr,j,none⟩ = false:=Open.but (w:=w2) (g:=gr) OR hb3 grl (by simp)
  replace r0:=hb3.cell_some r0 (by simp)
  replace r1:=hb3.cell_some r1 (by simp)
  replace r2:=hb3.cell_some r2 (by simp)
  replace r3:=hb3.cell_some r3 (by simp)
  have H3 : Hid (But [] w w3):=(unhide H2).trans' hb3
  have FIN : Hid (Len d1 21∧d1.den ≤ most∧∀ y : Rat,y.den ≤ most→Bef f d1 y):=by
   obtain ⟨l1,l2,m1,m2,hb⟩:=unhide LB
   have hB:=(unhide HBT).1 (by simp)
   refine ⟨l1,m1,fun y hy => ?_⟩
   rcases hb y hy with rfl | rfl | h | h
   ·exact Bef.refl _ _
   ·exact hB
   ·exact .inl h
   ·exact hB.of_lt h
  clear hb3 hv3 H2 K2 VA VB LB HBT m0 m1 m2 m3 m4 n0 n1 n2 n3 n4 grl
  go_wp2
  have hBg:=but_set4 w3 gr (.bool r8) (.int .u64 x8) (.int .u64 y8) (.pointer p8)
  exact bodyPost_ret (v:=.tuple #[.agg #[.bool r8,.int .u64 x8,.int .u64 y8,.pointer p8],.nilIface]) (by simp [results,Tryz.results47,go_sem,r0,r1,r2,r3]) rfl ⟨_,d1,rfl,(unhide HV3).over r0 hBg,(unhide FIN).1,(unhide FIN).2.1,(unhide FIN).2.2,(unhide H3).trans hBg (fun x hx => by simp at hx; subst hx; exact .inr (unhide HGR))⟩
end Go.Proofs.YteipfplbcbaheaaGreatDoor

namespace Go.Proofs.YteipfplbcbaheaaGreatDoor
open Go.RowKit

theorem tmod_sgU (x y : Int) : x.tmod y = sgU (decide (x < 0)) (x.natAbs % y.natAbs):=by
 unfold sgU
 by_cases h : x < 0
 ·rw [decide_eq_true h,if_pos rfl]
  obtain ⟨m,rfl⟩ : ∃ m : Nat,x = -(m : Int):=⟨x.natAbs,by omega⟩
  rw [Int.neg_tmod,Int.natAbs_neg,Int.natAbs_natCast]
  rcases Int.natAbs_eq y with e | e <;> rw [e] <;> (simp only [Int.tmod_neg,Int.natAbs_neg,Int.natAbs_natCast]; rfl)
 ·rw [decide_eq_false h,if_neg (by simp)]
  obtain ⟨m,rfl⟩ : ∃ m : Nat,x = (m : Int):=⟨x.natAbs,by omega⟩
  rcases Int.natAbs_eq y with e | e <;> rw [e] <;> (simp only [Int.tmod_neg,Int.natAbs_neg,Int.natAbs_natCast]; rfl)
theorem tdiv_sgU (x y : Int) (hy : y ≠ 0) : x.tdiv y = sgU (decide (x < 0) != decide (y < 0)) (x.natAbs / y.natAbs):=by
 unfold sgU
 by_cases h : x < 0 <;> by_cases k : y < 0
 ·rw [decide_eq_true h,decide_eq_true k,if_neg (by simp)]
  obtain ⟨m,rfl⟩ : ∃ m : Nat,x = -(m : Int):=⟨x.natAbs,by omega⟩
  obtain ⟨n,rfl⟩ : ∃ n : Nat,y = -(n : Int):=⟨y.natAbs,by omega⟩
  simp [Int.neg_tdiv,Int.tdiv_neg]
 ·rw [decide_eq_true h,decide_eq_false k,if_pos (by simp)]
  obtain ⟨m,rfl⟩ : ∃ m : Nat,x = -(m : Int):=⟨x.natAbs,by omega⟩
  obtain ⟨n,rfl⟩ : ∃ n : Nat,y = (n : Int):=⟨y.natAbs,by omega⟩
  simp [Int.neg_tdiv]
 ·rw [decide_eq_false h,decide_eq_true k,if_pos (by simp)]
  obtain ⟨m,rfl⟩ : ∃ m : Nat,x = (m : Int):=⟨x.natAbs,by omega⟩
  obtain ⟨n,rfl⟩ : ∃ n : Nat,y = -(n : Int):=⟨y.natAbs,by omega⟩
  simp [Int.tdiv_neg]
 ·rw [decide_eq_false h,decide_eq_false k,if_neg (by simp)]
  obtain ⟨m,rfl⟩ : ∃ m : Nat,x = (m : Int):=⟨x.natAbs,by omega⟩
  obtain ⟨n,rfl⟩ : ∃ n : Nat,y = (n : Int):=⟨y.natAbs,by omega⟩
  simp

set_option maxHeartbeats 8000000 in
set_option maxRecDepth 100000 in
theorem quoRemU_any (zb rb b1 o1 b2 o2 : Nat) (x y q t : Int) (w : World) (hz : Slot w zb 0) (hr : Slot w rb 0) (hne : zb ≠ rb) (hx : IntAt w b1 o1 x) (hy : IntAt w b2 o2 y) (hy0 : y ≠ 0) (hlx : (wd 4294967296 x.natAbs).length < 8388608) (hly : (wd 4294967296 y.natAbs).length < 8388608) (hlq : (wd 4294967296 q.natAbs).length < 2147483648) (hlt : (wd 4294967296 t.natAbs).length < 2147483648) (hq : Hid (q = sgU (decide (x < 0) != decide (y < 0)) (x.natAbs / y.natAbs))) (ht : Hid (t = sgU (decide (x < 0)) (x.natAbs % y.natAbs))) :
  Calls Tryz.prog 151 #[.pointer (some ⟨zb,0,none⟩),.pointer (some ⟨b1,o1,none⟩),.pointer (some ⟨b2,o2,none⟩),.pointer (some ⟨rb,0,none⟩)] w fun e w' => e = .returned (.tuple #[.pointer (some ⟨zb,0,none⟩),.pointer (some ⟨rb,0,none⟩)])∧But [zb,rb] w w'∧IntAt w' zb 0 q∧IntAt w' rb 0 t∧Slot w' zb 0∧Slot w' rb 0:=by
 obtain ⟨h0,v0,h1,hv⟩:=hx
 obtain ⟨g0,u0,g1,hu⟩:=hy
 obtain ⟨q1,q2⟩:=sgU_sign _ _ q (unhide hq)
 obtain ⟨t1,t2⟩:=sgU_sign _ _ t (unhide ht)
 have DV:=hide (fun W (h8 : Sl .u32 W v0 (wd 4294967296 x.natAbs)) (h9 : Sl .u32 W u0 (wd 4294967296 y.natAbs)) => divU_any v0 u0 x.natAbs y.natAbs W h8 h9 (by omega) hlx hly)
 rw [← q1,← t1] at DV
 rw [← q1] at q2
 rw [← t1] at t2
 generalize hsx : decide (x < 0) = sx at h0 q2 t2
 generalize hsy : decide (y < 0) = sy at g0 q2
 have HQ2:=hide q2
 have HT2:=hide t2
 clear hsx hsy hq ht q1 q2 t1 t2
 go_enter Tryz.func151,Tryz.ntmps151
 go_wp2
 go_quiet (fail)
 go_wp2
 obtain ⟨W,hW⟩ : ∃ W,W = w.drewN nq:=⟨_,rfl⟩
 have KB0 : But [] w W:=by rw [hW]; exact (But.refl _ _).drewN _
 have k1:=KB0.cell_some h1 (by simp)
 have l1:=KB0.cell_some g1 (by simp)
 have hv':=hv.but_nil KB0
 have hu':=hu.but_nil KB0
 have hz':=hz.but KB0 (by simp)
 have hr':=hr.but KB0 (by simp)
 rw [← hW]
 have HB0:=hide KB0
 clear hW KB0 hv hu h0 h1 g0 g1 hz hr
 go_region_held (fun w' => w'.cell? ⟨b1,o1 + 1,none⟩ = some v0∧w'.cell? ⟨b2,o2 + 1,none⟩ = some u0) (go_keep) (
  (go_at_call 200; refine (unhide DV _ ?_ ?_).mono ?_; exact hv'; exact hu'; rintro e w1 ⟨vq,vt,rfl,hvq,hvt,hb⟩; have hb0 : But [] W w1:=(by first | exact hb | exact (But.refl _ _).drew.trans' hb | exact ((But.refl _ _).drewN _).trans' hb); have k0:=hb0.cell_some k1 (by simp); have k2:=hb0.cell_some l1 (by simp)))
 all_goals
  obtain ⟨⟨s0,hc0⟩,⟨a0,n0,c0,hc1⟩,f0,f1⟩:=hz'.but hb0 (by simp)
  have GV:=hide (give_any zb 0 (sx != sy) vq _ (.bool s0) (.slice a0 n0 c0) _ hvq hlq hc0 hc1 f0 f1)
  go_wp2_with fail
  refine (unhide GV).mono ?_
  rintro e w2 ⟨rfl,hw2⟩
  rw [unhide HQ2] at hw2
  have hw2' : w2 = putI w1 zb 0 vq (decide (q < 0)):=hw2
  have hzs:=hz'.but hb0 (by simp)
  have hrs:=hr'.but hb0 (by simp)
  have I1:=put_int hzs vq q hvq
  obtain ⟨aq,bq,cq,rfl⟩:=hvq.slice
  have S1:=put_slot hzs aq bq cq (decide (q < 0))
  have S2:=put_slot_other (b:=zb) (o:=0) (.slice aq bq cq) (decide (q < 0)) hrs (.inl (Ne.symm hne))
  have V2:=put_sl hzs (.slice aq bq cq) (decide (q < 0)) hvt
  have B2:=put_but w1 zb 0 (.slice aq bq cq) (decide (q < 0))
  rw [← hw2'] at I1 S1 S2 V2 B2
  obtain ⟨⟨s5,hd0⟩,⟨a5,n5,c5,hd1⟩,e0,e1⟩:=S2
  have GT:=hide (give_any rb 0 sx vt _ (.bool s5) (.slice a5 n5 c5) _ V2 hlt hd0 hd1 e0 e1)
  have S2 : Slot w2 rb 0:=⟨⟨s5,hd0⟩,⟨a5,n5,c5,hd1⟩,e0,e1⟩
  have FIN:=hide (And.intro I1 (And.intro S1 (And.intro S2 (And.intro V2 (And.intro B2 hb0)))))
  clear hw2 hw2' I1 S1 S2 V2 B2 hzs hrs hc0 hc1 f0 f1 hd0 hd1 e0 e1 GV
  go_wp2_with fail
  refine (unhide GT).mono ?_
  rintro e w3 ⟨rfl,hw3⟩
  rw [unhide HT2] at hw3
  have hw3' : w3 = putI w2 rb 0 vt (decide (t < 0)):=hw3
  have HW3:=hide hw3'
  clear hw3 hw3' GT
  go_wp2
  go_ret2
  obtain ⟨I1,S1,S2,V2,B2,hb0⟩:=unhide FIN
  obtain ⟨aq,bq,cq,rfl⟩:=V2.slice
  rw [unhide HW3]
  exact ⟨rfl,(((unhide HB0).trans' hb0).of_nil.trans (B2.mono (l':=[zb,rb]) (by simp)) (by simp)).trans (put_but _ _ _ _ _) (by simp),put_int_other S2 _ _ I1 (.inl hne),put_int S2 _ _ V2,put_slot_other _ _ S1 (.inl hne),put_slot S2 _ _ _ _⟩
end Go.Proofs.YteipfplbcbaheaaGreatDoor
