/- Whether a line may be, as the Go text of package treaty tells it: where what it has does not fit its kind. -/
import Derived.Test.YtjbboicccddhbaaGreatDoorKPXK
namespace Go.Proofs.YtjbboicccddhbaaGreatDoor
open Go.RowKit

set_option maxHeartbeats 8000000 in
set_option maxRecDepth 100000 in
theorem lineCheck_oneB (s : Bool) (x y : Int) (p : Option Addr) (fr li ti pr : Int) (to : ByteArray) (f : Rat) (w : World) (hf : FracAt w (.agg #[.bool s,.int .u64 x,.int .u64 y,.pointer p]) f) (lf : Len f 1) (hname : NameIs to) (hr : RangeOk fr li ti pr) (h1 : 0 ≤ f∧f ≤ 1) (h2 : ¬ (fr = 0∧li = 0∧ti = 0∧pr = 0)) :
  Calls Tryz.prog 122 #[lineV 1 s x y p fr li ti pr to] w fun e w' => e = .returned (.iface 92 (.int .i64 1))∧But [] w w':=by
 obtain ⟨r1,r2,r3,r4⟩:=hr
 have NM:=hide (fun W => tableName_yes to W hname)
 have W1:=hide (fun W => within_any fr 1000000000000 W)
 rw [decide_eq_true r1] at W1
 have W2:=hide (fun W => within_any li 1000000000000 W)
 rw [decide_eq_true r2] at W2
 have W3:=hide (fun W => within_any pr 1000000000000 W)
 rw [decide_eq_true r3] at W3
 have W4:=hide (fun W => within_any ti 100 W)
 rw [decide_eq_true r4] at W4
 have FI:=hide (fun W (h : But [] w W) => fits_one s x y p fr li ti pr to f W (hf.but h) lf)
 rw [decide_eq_true h1] at FI
 have FO:=hide (fun W => foreign_one s x y p fr li ti pr to W)
 have EM:=hide (fun W (h : But [] w W) => empty_any 1 false 0 0 none fr li ti pr to 0 W (zeroX_at W) false (decide_eq_false (fun h => h2 ⟨h.2.1,h.2.2.1,h.2.2.2.1,h.2.2.2.2⟩)).symm)
 have x1:=hide (LBox.new w 1 s x y p fr li ti pr to)
 have bA:=hide ((But.refl [] w).alloc (.cells #[.int .i64 1,.bool s,.int .u64 x,.int .u64 y,.pointer p,.int .i64 fr,.int .i64 li,.int .i64 ti,.int .i64 pr,.string to] 71))
 unfold lineV at FI FO EM
 clear hf lf hname r1 r2 r3 r4 h1 h2
 unfold lineV
 go_enter Tryz.func122,Tryz.ntmps122
 go_wp2_with fail
 refine (unhide NM _).mono ?_
 rintro e w1 ⟨rfl,hb1⟩
 have B1:=hide ((unhide bA).trans' hb1)
 have X1:=(unhide x1).but hb1 (by simp)
 have c0:=X1.cells 0 _ rfl
 have c1:=X1.cells 1 _ rfl
 have c2:=X1.cells 2 _ rfl
 have c3:=X1.cells 3 _ rfl
 have c4:=X1.cells 4 _ rfl
 have c5:=X1.cells 5 _ rfl
 have c6:=X1.cells 6 _ rfl
 have c7:=X1.cells 7 _ rfl
 have c8:=X1.cells 8 _ rfl
 have c9:=X1.cells 9 _ rfl
 generalize w.heap.size = g1 at c0 c1 c2 c3 c4 c5 c6 c7 c8 c9 ⊢
 clear hb1 NM bA X1 x1
 go_wp2_with fail
 refine (unhide W1 _).mono ?_
 rintro e w1' ⟨rfl,rfl⟩
 go_wp2_with fail
 refine (unhide W2 _).mono ?_
 rintro e w1'' ⟨rfl,rfl⟩
 go_wp2_with fail
 refine (unhide W3 _).mono ?_
 rintro e w13 ⟨rfl,rfl⟩
 go_wp2_with fail
 refine (unhide W4 _).mono ?_
 rintro e w14 ⟨rfl,rfl⟩
 go_wp2_with fail
 refine (unhide FI _ (unhide B1)).mono ?_
 rintro e w2 ⟨rfl,hb2⟩
 have B2:=hide ((unhide B1).trans' hb2)
 have d0:=hb2.cell_some c0 (by simp)
 have d1:=hb2.cell_some c1 (by simp)
 have d2:=hb2.cell_some c2 (by simp)
 have d3:=hb2.cell_some c3 (by simp)
 have d4:=hb2.cell_some c4 (by simp)
 have d5:=hb2.cell_some c5 (by simp)
 have d6:=hb2.cell_some c6 (by simp)
 have d7:=hb2.cell_some c7 (by simp)
 have d8:=hb2.cell_some c8 (by simp)
 have d9:=hb2.cell_some c9 (by simp)
 clear hb2 c0 c1 c2 c3 c4 c5 c6 c7 c8 c9 W1 W2 W3 W4 FI B1
 go_wp2_with fail
 refine (unhide FO _).mono ?_
 rintro e w3 ⟨rfl,hb3⟩
 have B3:=hide ((unhide B2).trans' hb3)
 clear hb3 FO B2 d0 d1 d2 d3 d4 d5 d6 d7 d8 d9
 go_wp2_with fail
 refine (unhide EM _ (unhide B3)).mono ?_
 rintro e w4 ⟨rfl,hb4⟩
 have B4:=hide ((unhide B3).trans' hb4)
 clear hb4 EM B3
 go_wp2
 exact bodyPost_ret (v:=.iface 92 (.int .i64 1)) (by simp [results,Tryz.results122,go_sem]) rfl ⟨rfl,unhide B4⟩
set_option maxHeartbeats 8000000 in
set_option maxRecDepth 100000 in
theorem lineCheck_oneA (s : Bool) (x y : Int) (p : Option Addr) (fr li ti pr : Int) (to : ByteArray) (f : Rat) (w : World) (hf : FracAt w (.agg #[.bool s,.int .u64 x,.int .u64 y,.pointer p]) f) (lf : Len f 1) (hname : NameIs to) (hr : RangeOk fr li ti pr) (h1 : ¬ (0 ≤ f∧f ≤ 1)) :
  Calls Tryz.prog 122 #[lineV 1 s x y p fr li ti pr to] w fun e w' => e = .returned (.iface 92 (.int .i64 1))∧But [] w w':=by
 obtain ⟨r1,r2,r3,r4⟩:=hr
 have NM:=hide (fun W => tableName_yes to W hname)
 have W1:=hide (fun W => within_any fr 1000000000000 W)
 rw [decide_eq_true r1] at W1
 have W2:=hide (fun W => within_any li 1000000000000 W)
 rw [decide_eq_true r2] at W2
 have W3:=hide (fun W => within_any pr 1000000000000 W)
 rw [decide_eq_true r3] at W3
 have W4:=hide (fun W => within_any ti 100 W)
 rw [decide_eq_true r4] at W4
 have FI:=hide (fun W (h : But [] w W) => fits_one s x y p fr li ti pr to f W (hf.but h) lf)
 rw [decide_eq_false h1] at FI
 have x1:=hide (LBox.new w 1 s x y p fr li ti pr to)
 have bA:=hide ((But.refl [] w).alloc (.cells #[.int .i64 1,.bool s,.int .u64 x,.int .u64 y,.pointer p,.int .i64 fr,.int .i64 li,.int .i64 ti,.int .i64 pr,.string to] 71))
 unfold lineV at FI
 clear hf lf hname r1 r2 r3 r4 h1
 unfold lineV
 go_enter Tryz.func122,Tryz.ntmps122
 go_wp2_with fail
 refine (unhide NM _).mono ?_
 rintro e w1 ⟨rfl,hb1⟩
 have B1:=hide ((unhide bA).trans' hb1)
 have X1:=(unhide x1).but hb1 (by simp)
 have c0:=X1.cells 0 _ rfl
 have c1:=X1.cells 1 _ rfl
 have c2:=X1.cells 2 _ rfl
 have c3:=X1.cells 3 _ rfl
 have c4:=X1.cells 4 _ rfl
 have c5:=X1.cells 5 _ rfl
 have c6:=X1.cells 6 _ rfl
 have c7:=X1.cells 7 _ rfl
 have c8:=X1.cells 8 _ rfl
 have c9:=X1.cells 9 _ rfl
 generalize w.heap.size = g1 at c0 c1 c2 c3 c4 c5 c6 c7 c8 c9 ⊢
 clear hb1 NM bA X1 x1
 go_wp2_with fail
 refine (unhide W1 _).mono ?_
 rintro e w1' ⟨rfl,rfl⟩
 go_wp2_with fail
 refine (unhide W2 _).mono ?_
 rintro e w1'' ⟨rfl,rfl⟩
 go_wp2_with fail
 refine (unhide W3 _).mono ?_
 rintro e w13 ⟨rfl,rfl⟩
 go_wp2_with fail
 refine (unhide W4 _).mono ?_
 rintro e w14 ⟨rfl,rfl⟩
 go_wp2_with fail
 refine (unhide FI _ (unhide B1)).mono ?_
 rintro e w2 ⟨rfl,hb2⟩
 have B2:=hide ((unhide B1).trans' hb2)
 clear hb2 c0 c1 c2 c3 c4 c5 c6 c7 c8 c9 W1 W2 W3 W4 FI B1
 go_wp2
 exact bodyPost_ret (v:=.iface 92 (.int .i64 1)) (by simp [results,Tryz.results122,go_sem]) rfl ⟨rfl,unhide B2⟩
set_option maxHeartbeats 8000000 in
set_option maxRecDepth 100000 in
theorem lineCheck_twoB (s : Bool) (x y : Int) (p : Option Addr) (fr li ti pr : Int) (to : ByteArray) (f : Rat) (w : World) (hf : FracAt w (.agg #[.bool s,.int .u64 x,.int .u64 y,.pointer p]) f) (_lf : Len f 1) (hname : NameIs to) (hr : RangeOk fr li ti pr) (h1 : 1 ≤ li) (h2 : ¬ (f.num = 0∧fr = 0∧pr = 0)) :
  Calls Tryz.prog 122 #[lineV 2 s x y p fr li ti pr to] w fun e w' => e = .returned (.iface 92 (.int .i64 1))∧But [] w w':=by
 obtain ⟨r1,r2,r3,r4⟩:=hr
 have NM:=hide (fun W => tableName_yes to W hname)
 have W1:=hide (fun W => within_any fr 1000000000000 W)
 rw [decide_eq_true r1] at W1
 have W2:=hide (fun W => within_any li 1000000000000 W)
 rw [decide_eq_true r2] at W2
 have W3:=hide (fun W => within_any pr 1000000000000 W)
 rw [decide_eq_true r3] at W3
 have W4:=hide (fun W => within_any ti 100 W)
 rw [decide_eq_true r4] at W4
 have FI:=hide (fun W (h : But [] w W) => fits_two s x y p fr li ti pr to W)
 rw [decide_eq_true h1] at FI
 have FO:=hide (fun W => foreign_two s x y p fr li ti pr to W)
 have EM:=hide (fun W (h : But [] w W) => empty_any 2 s x y p fr 0 0 pr to f W (hf.but h) false (decide_eq_false (fun h => h2 ⟨h.1,h.2.1,h.2.2.2.2⟩)).symm)
 have x1:=hide (LBox.new w 2 s x y p fr li ti pr to)
 have bA:=hide ((But.refl [] w).alloc (.cells #[.int .i64 2,.bool s,.int .u64 x,.int .u64 y,.pointer p,.int .i64 fr,.int .i64 li,.int .i64 ti,.int .i64 pr,.string to] 71))
 unfold lineV at FI FO EM
 clear hf _lf hname r1 r2 r3 r4 h1 h2
 unfold lineV
 go_enter Tryz.func122,Tryz.ntmps122
 go_wp2_with fail
 refine (unhide NM _).mono ?_
 rintro e w1 ⟨rfl,hb1⟩
 have B1:=hide ((unhide bA).trans' hb1)
 have X1:=(unhide x1).but hb1 (by simp)
 have c0:=X1.cells 0 _ rfl
 have c1:=X1.cells 1 _ rfl
 have c2:=X1.cells 2 _ rfl
 have c3:=X1.cells 3 _ rfl
 have c4:=X1.cells 4 _ rfl
 have c5:=X1.cells 5 _ rfl
 have c6:=X1.cells 6 _ rfl
 have c7:=X1.cells 7 _ rfl
 have c8:=X1.cells 8 _ rfl
 have c9:=X1.cells 9 _ rfl
 generalize w.heap.size = g1 at c0 c1 c2 c3 c4 c5 c6 c7 c8 c9 ⊢
 clear hb1 NM bA X1 x1
 go_wp2_with fail
 refine (unhide W1 _).mono ?_
 rintro e w1' ⟨rfl,rfl⟩
 go_wp2_with fail
 refine (unhide W2 _).mono ?_
 rintro e w1'' ⟨rfl,rfl⟩
 go_wp2_with fail
 refine (unhide W3 _).mono ?_
 rintro e w13 ⟨rfl,rfl⟩
 go_wp2_with fail
 refine (unhide W4 _).mono ?_
 rintro e w14 ⟨rfl,rfl⟩
 go_wp2_with fail
 refine (unhide FI _ (unhide B1)).mono ?_
 rintro e w2 ⟨rfl,hb2⟩
 have B2:=hide ((unhide B1).trans' hb2)
 have d0:=hb2.cell_some c0 (by simp)
 have d1:=hb2.cell_some c1 (by simp)
 have d2:=hb2.cell_some c2 (by simp)
 have d3:=hb2.cell_some c3 (by simp)
 have d4:=hb2.cell_some c4 (by simp)
 have d5:=hb2.cell_some c5 (by simp)
 have d6:=hb2.cell_some c6 (by simp)
 have d7:=hb2.cell_some c7 (by simp)
 have d8:=hb2.cell_some c8 (by simp)
 have d9:=hb2.cell_some c9 (by simp)
 clear hb2 c0 c1 c2 c3 c4 c5 c6 c7 c8 c9 W1 W2 W3 W4 FI B1
 go_wp2_with fail
 refine (unhide FO _).mono ?_
 rintro e w3 ⟨rfl,hb3⟩
 have B3:=hide ((unhide B2).trans' hb3)
 clear hb3 FO B2 d0 d1 d2 d3 d4 d5 d6 d7 d8 d9
 go_wp2_with fail
 refine (unhide EM _ (unhide B3)).mono ?_
 rintro e w4 ⟨rfl,hb4⟩
 have B4:=hide ((unhide B3).trans' hb4)
 clear hb4 EM B3
 go_wp2
 exact bodyPost_ret (v:=.iface 92 (.int .i64 1)) (by simp [results,Tryz.results122,go_sem]) rfl ⟨rfl,unhide B4⟩
set_option maxHeartbeats 8000000 in
set_option maxRecDepth 100000 in
theorem lineCheck_twoA (s : Bool) (x y : Int) (p : Option Addr) (fr li ti pr : Int) (to : ByteArray) (f : Rat) (w : World) (_hf : FracAt w (.agg #[.bool s,.int .u64 x,.int .u64 y,.pointer p]) f) (_lf : Len f 1) (hname : NameIs to) (hr : RangeOk fr li ti pr) (h1 : ¬ 1 ≤ li) :
  Calls Tryz.prog 122 #[lineV 2 s x y p fr li ti pr to] w fun e w' => e = .returned (.iface 92 (.int .i64 1))∧But [] w w':=by
 obtain ⟨r1,r2,r3,r4⟩:=hr
 have NM:=hide (fun W => tableName_yes to W hname)
 have W1:=hide (fun W => within_any fr 1000000000000 W)
 rw [decide_eq_true r1] at W1
 have W2:=hide (fun W => within_any li 1000000000000 W)
 rw [decide_eq_true r2] at W2
 have W3:=hide (fun W => within_any pr 1000000000000 W)
 rw [decide_eq_true r3] at W3
 have W4:=hide (fun W => within_any ti 100 W)
 rw [decide_eq_true r4] at W4
 have FI:=hide (fun W (h : But [] w W) => fits_two s x y p fr li ti pr to W)
 rw [decide_eq_false h1] at FI
 have x1:=hide (LBox.new w 2 s x y p fr li ti pr to)
 have bA:=hide ((But.refl [] w).alloc (.cells #[.int .i64 2,.bool s,.int .u64 x,.int .u64 y,.pointer p,.int .i64 fr,.int .i64 li,.int .i64 ti,.int .i64 pr,.string to] 71))
 unfold lineV at FI
 clear _hf _lf hname r1 r2 r3 r4 h1
 unfold lineV
 go_enter Tryz.func122,Tryz.ntmps122
 go_wp2_with fail
 refine (unhide NM _).mono ?_
 rintro e w1 ⟨rfl,hb1⟩
 have B1:=hide ((unhide bA).trans' hb1)
 have X1:=(unhide x1).but hb1 (by simp)
 have c0:=X1.cells 0 _ rfl
 have c1:=X1.cells 1 _ rfl
 have c2:=X1.cells 2 _ rfl
 have c3:=X1.cells 3 _ rfl
 have c4:=X1.cells 4 _ rfl
 have c5:=X1.cells 5 _ rfl
 have c6:=X1.cells 6 _ rfl
 have c7:=X1.cells 7 _ rfl
 have c8:=X1.cells 8 _ rfl
 have c9:=X1.cells 9 _ rfl
 generalize w.heap.size = g1 at c0 c1 c2 c3 c4 c5 c6 c7 c8 c9 ⊢
 clear hb1 NM bA X1 x1
 go_wp2_with fail
 refine (unhide W1 _).mono ?_
 rintro e w1' ⟨rfl,rfl⟩
 go_wp2_with fail
 refine (unhide W2 _).mono ?_
 rintro e w1'' ⟨rfl,rfl⟩
 go_wp2_with fail
 refine (unhide W3 _).mono ?_
 rintro e w13 ⟨rfl,rfl⟩
 go_wp2_with fail
 refine (unhide W4 _).mono ?_
 rintro e w14 ⟨rfl,rfl⟩
 go_wp2_with fail
 refine (unhide FI _ (unhide B1)).mono ?_
 rintro e w2 ⟨rfl,hb2⟩
 have B2:=hide ((unhide B1).trans' hb2)
 clear hb2 c0 c1 c2 c3 c4 c5 c6 c7 c8 c9 W1 W2 W3 W4 FI B1
 go_wp2
 exact bodyPost_ret (v:=.iface 92 (.int .i64 1)) (by simp [results,Tryz.results122,go_sem]) rfl ⟨rfl,unhide B2⟩
set_option maxHeartbeats 8000000 in
set_option maxRecDepth 100000 in
theorem lineCheck_threeB (s : Bool) (x y : Int) (p : Option Addr) (fr li ti pr : Int) (to : ByteArray) (f : Rat) (w : World) (hf : FracAt w (.agg #[.bool s,.int .u64 x,.int .u64 y,.pointer p]) f) (_lf : Len f 1) (hname : NameIs to) (hr : RangeOk fr li ti pr) (h1 : 1 ≤ li) (h2 : ¬ f.num = 0) :
  Calls Tryz.prog 122 #[lineV 3 s x y p fr li ti pr to] w fun e w' => e = .returned (.iface 92 (.int .i64 1))∧But [] w w':=by
 obtain ⟨r1,r2,r3,r4⟩:=hr
 have NM:=hide (fun W => tableName_yes to W hname)
 have W1:=hide (fun W => within_any fr 1000000000000 W)
 rw [decide_eq_true r1] at W1
 have W2:=hide (fun W => within_any li 1000000000000 W)
 rw [decide_eq_true r2] at W2
 have W3:=hide (fun W => within_any pr 1000000000000 W)
 rw [decide_eq_true r3] at W3
 have W4:=hide (fun W => within_any ti 100 W)
 rw [decide_eq_true r4] at W4
 have FI:=hide (fun W (h : But [] w W) => fits_three s x y p fr li ti pr to W)
 rw [decide_eq_true h1] at FI
 have FO:=hide (fun W => foreign_three s x y p fr li ti pr to W)
 have EM:=hide (fun W (h : But [] w W) => empty_any 3 s x y p 0 0 0 0 to f W (hf.but h) false (decide_eq_false (fun h => h2 h.1)).symm)
 have x1:=hide (LBox.new w 3 s x y p fr li ti pr to)
 have bA:=hide ((But.refl [] w).alloc (.cells #[.int .i64 3,.bool s,.int .u64 x,.int .u64 y,.pointer p,.int .i64 fr,.int .i64 li,.int .i64 ti,.int .i64 pr,.string to] 71))
 unfold lineV at FI FO EM
 clear hf _lf hname r1 r2 r3 r4 h1 h2
 unfold lineV
 go_enter Tryz.func122,Tryz.ntmps122
 go_wp2_with fail
 refine (unhide NM _).mono ?_
 rintro e w1 ⟨rfl,hb1⟩
 have B1:=hide ((unhide bA).trans' hb1)
 have X1:=(unhide x1).but hb1 (by simp)
 have c0:=X1.cells 0 _ rfl
 have c1:=X1.cells 1 _ rfl
 have c2:=X1.cells 2 _ rfl
 have c3:=X1.cells 3 _ rfl
 have c4:=X1.cells 4 _ rfl
 have c5:=X1.cells 5 _ rfl
 have c6:=X1.cells 6 _ rfl
 have c7:=X1.cells 7 _ rfl
 have c8:=X1.cells 8 _ rfl
 have c9:=X1.cells 9 _ rfl
 generalize w.heap.size = g1 at c0 c1 c2 c3 c4 c5 c6 c7 c8 c9 ⊢
 clear hb1 NM bA X1 x1
 go_wp2_with fail
 refine (unhide W1 _).mono ?_
 rintro e w1' ⟨rfl,rfl⟩
 go_wp2_with fail
 refine (unhide W2 _).mono ?_
 rintro e w1'' ⟨rfl,rfl⟩
 go_wp2_with fail
 refine (unhide W3 _).mono ?_
 rintro e w13 ⟨rfl,rfl⟩
 go_wp2_with fail
 refine (unhide W4 _).mono ?_
 rintro e w14 ⟨rfl,rfl⟩
 go_wp2_with fail
 refine (unhide FI _ (unhide B1)).mono ?_
 rintro e w2 ⟨rfl,hb2⟩
 have B2:=hide ((unhide B1).trans' hb2)
 have d0:=hb2.cell_some c0 (by simp)
 have d1:=hb2.cell_some c1 (by simp)
 have d2:=hb2.cell_some c2 (by simp)
 have d3:=hb2.cell_some c3 (by simp)
 have d4:=hb2.cell_some c4 (by simp)
 have d5:=hb2.cell_some c5 (by simp)
 have d6:=hb2.cell_some c6 (by simp)
 have d7:=hb2.cell_some c7 (by simp)
 have d8:=hb2.cell_some c8 (by simp)
 have d9:=hb2.cell_some c9 (by simp)
 clear hb2 c0 c1 c2 c3 c4 c5 c6 c7 c8 c9 W1 W2 W3 W4 FI B1
 go_wp2_with fail
 refine (unhide FO _).mono ?_
 rintro e w3 ⟨rfl,hb3⟩
 have B3:=hide ((unhide B2).trans' hb3)
 clear hb3 FO B2 d0 d1 d2 d3 d4 d5 d6 d7 d8 d9
 go_wp2_with fail
 refine (unhide EM _ (unhide B3)).mono ?_
 rintro e w4 ⟨rfl,hb4⟩
 have B4:=hide ((unhide B3).trans' hb4)
 clear hb4 EM B3
 go_wp2
 exact bodyPost_ret (v:=.iface 92 (.int .i64 1)) (by simp [results,Tryz.results122,go_sem]) rfl ⟨rfl,unhide B4⟩
set_option maxHeartbeats 8000000 in
set_option maxRecDepth 100000 in
theorem lineCheck_threeA (s : Bool) (x y : Int) (p : Option Addr) (fr li ti pr : Int) (to : ByteArray) (f : Rat) (w : World) (_hf : FracAt w (.agg #[.bool s,.int .u64 x,.int .u64 y,.pointer p]) f) (_lf : Len f 1) (hname : NameIs to) (hr : RangeOk fr li ti pr) (h1 : ¬ 1 ≤ li) :
  Calls Tryz.prog 122 #[lineV 3 s x y p fr li ti pr to] w fun e w' => e = .returned (.iface 92 (.int .i64 1))∧But [] w w':=by
 obtain ⟨r1,r2,r3,r4⟩:=hr
 have NM:=hide (fun W => tableName_yes to W hname)
 have W1:=hide (fun W => within_any fr 1000000000000 W)
 rw [decide_eq_true r1] at W1
 have W2:=hide (fun W => within_any li 1000000000000 W)
 rw [decide_eq_true r2] at W2
 have W3:=hide (fun W => within_any pr 1000000000000 W)
 rw [decide_eq_true r3] at W3
 have W4:=hide (fun W => within_any ti 100 W)
 rw [decide_eq_true r4] at W4
 have FI:=hide (fun W (h : But [] w W) => fits_three s x y p fr li ti pr to W)
 rw [decide_eq_false h1] at FI
 have x1:=hide (LBox.new w 3 s x y p fr li ti pr to)
 have bA:=hide ((But.refl [] w).alloc (.cells #[.int .i64 3,.bool s,.int .u64 x,.int .u64 y,.pointer p,.int .i64 fr,.int .i64 li,.int .i64 ti,.int .i64 pr,.string to] 71))
 unfold lineV at FI
 clear _hf _lf hname r1 r2 r3 r4 h1
 unfold lineV
 go_enter Tryz.func122,Tryz.ntmps122
 go_wp2_with fail
 refine (unhide NM _).mono ?_
 rintro e w1 ⟨rfl,hb1⟩
 have B1:=hide ((unhide bA).trans' hb1)
 have X1:=(unhide x1).but hb1 (by simp)
 have c0:=X1.cells 0 _ rfl
 have c1:=X1.cells 1 _ rfl
 have c2:=X1.cells 2 _ rfl
 have c3:=X1.cells 3 _ rfl
 have c4:=X1.cells 4 _ rfl
 have c5:=X1.cells 5 _ rfl
 have c6:=X1.cells 6 _ rfl
 have c7:=X1.cells 7 _ rfl
 have c8:=X1.cells 8 _ rfl
 have c9:=X1.cells 9 _ rfl
 generalize w.heap.size = g1 at c0 c1 c2 c3 c4 c5 c6 c7 c8 c9 ⊢
 clear hb1 NM bA X1 x1
 go_wp2_with fail
 refine (unhide W1 _).mono ?_
 rintro e w1' ⟨rfl,rfl⟩
 go_wp2_with fail
 refine (unhide W2 _).mono ?_
 rintro e w1'' ⟨rfl,rfl⟩
 go_wp2_with fail
 refine (unhide W3 _).mono ?_
 rintro e w13 ⟨rfl,rfl⟩
 go_wp2_with fail
 refine (unhide W4 _).mono ?_
 rintro e w14 ⟨rfl,rfl⟩
 go_wp2_with fail
 refine (unhide FI _ (unhide B1)).mono ?_
 rintro e w2 ⟨rfl,hb2⟩
 have B2:=hide ((unhide B1).trans' hb2)
 clear hb2 c0 c1 c2 c3 c4 c5 c6 c7 c8 c9 W1 W2 W3 W4 FI B1
 go_wp2
 exact bodyPost_ret (v:=.iface 92 (.int .i64 1)) (by simp [results,Tryz.results122,go_sem]) rfl ⟨rfl,unhide B2⟩
set_option maxHeartbeats 8000000 in
set_option maxRecDepth 100000 in
theorem lineCheck_fourB (s : Bool) (x y : Int) (p : Option Addr) (fr li ti pr : Int) (to : ByteArray) (f : Rat) (w : World) (hf : FracAt w (.agg #[.bool s,.int .u64 x,.int .u64 y,.pointer p]) f) (_lf : Len f 1) (hname : NameIs to) (hr : RangeOk fr li ti pr) (h2 : ¬ (f.num = 0∧ti = 0∧pr = 0)) :
  Calls Tryz.prog 122 #[lineV 4 s x y p fr li ti pr to] w fun e w' => e = .returned (.iface 92 (.int .i64 1))∧But [] w w':=by
 obtain ⟨r1,r2,r3,r4⟩:=hr
 have NM:=hide (fun W => tableName_yes to W hname)
 have W1:=hide (fun W => within_any fr 1000000000000 W)
 rw [decide_eq_true r1] at W1
 have W2:=hide (fun W => within_any li 1000000000000 W)
 rw [decide_eq_true r2] at W2
 have W3:=hide (fun W => within_any pr 1000000000000 W)
 rw [decide_eq_true r3] at W3
 have W4:=hide (fun W => within_any ti 100 W)
 rw [decide_eq_true r4] at W4
 have FI:=hide (fun W (h : But [] w W) => fits_four s x y p fr li ti pr to W)
 have FO:=hide (fun W => foreign_four s x y p fr li ti pr to W)
 have EM:=hide (fun W (h : But [] w W) => empty_any 4 s x y p 0 0 ti pr to f W (hf.but h) false (decide_eq_false (fun h => h2 ⟨h.1,h.2.2.2.1,h.2.2.2.2⟩)).symm)
 have x1:=hide (LBox.new w 4 s x y p fr li ti pr to)
 have bA:=hide ((But.refl [] w).alloc (.cells #[.int .i64 4,.bool s,.int .u64 x,.int .u64 y,.pointer p,.int .i64 fr,.int .i64 li,.int .i64 ti,.int .i64 pr,.string to] 71))
 unfold lineV at FI FO EM
 clear hf _lf hname r1 r2 r3 r4 h2
 unfold lineV
 go_enter Tryz.func122,Tryz.ntmps122
 go_wp2_with fail
 refine (unhide NM _).mono ?_
 rintro e w1 ⟨rfl,hb1⟩
 have B1:=hide ((unhide bA).trans' hb1)
 have X1:=(unhide x1).but hb1 (by simp)
 have c0:=X1.cells 0 _ rfl
 have c1:=X1.cells 1 _ rfl
 have c2:=X1.cells 2 _ rfl
 have c3:=X1.cells 3 _ rfl
 have c4:=X1.cells 4 _ rfl
 have c5:=X1.cells 5 _ rfl
 have c6:=X1.cells 6 _ rfl
 have c7:=X1.cells 7 _ rfl
 have c8:=X1.cells 8 _ rfl
 have c9:=X1.cells 9 _ rfl
 generalize w.heap.size = g1 at c0 c1 c2 c3 c4 c5 c6 c7 c8 c9 ⊢
 clear hb1 NM bA X1 x1
 go_wp2_with fail
 refine (unhide W1 _).mono ?_
 rintro e w1' ⟨rfl,rfl⟩
 go_wp2_with fail
 refine (unhide W2 _).mono ?_
 rintro e w1'' ⟨rfl,rfl⟩
 go_wp2_with fail
 refine (unhide W3 _).mono ?_
 rintro e w13 ⟨rfl,rfl⟩
 go_wp2_with fail
 refine (unhide W4 _).mono ?_
 rintro e w14 ⟨rfl,rfl⟩
 go_wp2_with fail
 refine (unhide FI _ (unhide B1)).mono ?_
 rintro e w2 ⟨rfl,hb2⟩
 have B2:=hide ((unhide B1).trans' hb2)
 have d0:=hb2.cell_some c0 (by simp)
 have d1:=hb2.cell_some c1 (by simp)
 have d2:=hb2.cell_some c2 (by simp)
 have d3:=hb2.cell_some c3 (by simp)
 have d4:=hb2.cell_some c4 (by simp)
 have d5:=hb2.cell_some c5 (by simp)
 have d6:=hb2.cell_some c6 (by simp)
 have d7:=hb2.cell_some c7 (by simp)
 have d8:=hb2.cell_some c8 (by simp)
 have d9:=hb2.cell_some c9 (by simp)
 clear hb2 c0 c1 c2 c3 c4 c5 c6 c7 c8 c9 W1 W2 W3 W4 FI B1
 go_wp2_with fail
 refine (unhide FO _).mono ?_
 rintro e w3 ⟨rfl,hb3⟩
 have B3:=hide ((unhide B2).trans' hb3)
 clear hb3 FO B2 d0 d1 d2 d3 d4 d5 d6 d7 d8 d9
 go_wp2_with fail
 refine (unhide EM _ (unhide B3)).mono ?_
 rintro e w4 ⟨rfl,hb4⟩
 have B4:=hide ((unhide B3).trans' hb4)
 clear hb4 EM B3
 go_wp2
 exact bodyPost_ret (v:=.iface 92 (.int .i64 1)) (by simp [results,Tryz.results122,go_sem]) rfl ⟨rfl,unhide B4⟩
end Go.Proofs.YtjbboicccddhbaaGreatDoor

namespace Go.Proofs.YtjbboicccddhbaaGreatDoor
open Go.RowKit

/-- claims in memory: sum and amount of each -/
def ClAt (w : World) (v : Value) (cs : List (Int × Int)) : Prop:=∃ a cap,v = .slice a cs.length cap∧cs.length ≤ cap∧∀ i q,cs[i]? = some q→∃ b off,a = some ⟨b,off,none⟩∧w.cell? ⟨b,off + i * 2,none⟩ = some (.int .i64 q.1)∧w.cell? ⟨b,off + i * 2 + 1,none⟩ = some (.int .i64 q.2)
theorem ClAt.but {w w' : World} {v : Value} {cs : List (Int × Int)} (h : ClAt w v cs) (hb : But [] w w') : ClAt w' v cs:=by
 obtain ⟨a,cap,e,hc,h⟩:=h
 refine ⟨a,cap,e,hc,fun i q hq => ?_⟩
 obtain ⟨b,off,e1,h1,h2⟩:=h i q hq
 exact ⟨b,off,e1,hb.cell_some h1 (by simp),hb.cell_some h2 (by simp)⟩
/-- a claim that may be -/
def ClOk (q : Int × Int) : Prop:=1 ≤ q.1∧q.1 ≤ 1000000000000∧0 ≤ q.2∧q.2 ≤ q.1
set_option maxHeartbeats 8000000 in
set_option maxRecDepth 100000 in
theorem checkClaims_any (v : Value) (cs : List (Int × Int)) (w : World) (hv : ClAt w v cs) (hn : cs.length ≤ 100) (r : Value) (hok : (∀ q ∈ cs,ClOk q)→r = .nilIface) (hbad : ¬ (∀ q ∈ cs,ClOk q)→r = .iface 92 (.int .i64 2)) :
  Calls Tryz.prog 69 #[v] w fun e w' => e = .returned r∧But [] w w':=by
 obtain ⟨a,cap,rfl,hcap,hc⟩:=hv
 have HC:=hide hc
 have HOK:=hide hok
 have HBAD:=hide hbad
 generalize hnn : cs.length = n at *
 have HN:=hide hnn
 clear hc hok hbad hnn
 go_enter Tryz.func69,Tryz.ntmps69
 go_wp2
 go_loopw [11] (fun i wr => ∃ k : Nat,k ≤ n∧i = .int .i64 (k : Int)∧Hid (∀ j q,j < k→cs[j]? = some q→ClOk q)∧Hid (But [] w wr)) (fun i _ => n - (intOf i).toNat)
 case atStart => exact ⟨0,Nat.zero_le _,rfl,fun j q hj => absurd hj (by omega),But.refl _ _⟩
 case round =>
  obtain ⟨k,hk,rfl,HO,HB⟩:=hrel
  rename World => wr
  by_cases hlt : k < n
  ·have hkl : k < cs.length:=by have:=unhide HN; omega
   obtain ⟨b,off,rfl,c0,c1⟩:=unhide HC k cs[k] (List.getElem?_eq_getElem hkl)
   have d0:=(unhide HB).cell_some c0 (by simp)
   have d1:=(unhide HB).cell_some c1 (by simp)
   have hge : cs[k]? = some cs[k]:=List.getElem?_eq_getElem hkl
   have hmem : cs[k] ∈ cs:=List.getElem_mem hkl
   obtain ⟨q,hq⟩ : ∃ q,q = cs[k]:=⟨_,rfl⟩
   rw [← hq] at d0 d1 hge hmem
   have HGE:=hide hge
   have HMEM:=hide hmem
   clear c0 c1 hge hmem hq
   have bA:=hide ((unhide HB).alloc (.cells #[.int .i64 q.1,.int .i64 q.2] 63))
   have WI:=hide (fun W => within_any q.2 q.1 W)
   have HNX : Hid (ClOk q→∀ j p,j < k + 1→cs[j]? = some p→ClOk p):=fun ho j p hj hp => by
    rcases Nat.lt_or_ge j k with h | h
    ·exact unhide HO j p h hp
    ·obtain rfl : j = k:=by omega
     rw [unhide HGE] at hp
     obtain rfl:=Option.some.inj hp
     exact ho
   obtain ⟨q1,q2⟩:=q
   simp only at d0 d1 bA WI
   by_cases h1 : q1 < 1
   ·obtain rfl:=unhide HBAD (fun h => absurd (h _ (unhide HMEM)).1 (by show ¬ 1 ≤ q1; omega))
    go_wp2
    go_ret
    exact ⟨rfl,unhide bA⟩
   ·by_cases h2 : 1000000000000 < q1
    ·obtain rfl:=unhide HBAD (fun h => absurd (h _ (unhide HMEM)).2.1 (by show ¬ q1 ≤ 1000000000000; omega))
     go_wp2
     go_ret
     exact ⟨rfl,unhide bA⟩
    ·by_cases h3 : 0 ≤ q2∧q2 ≤ q1
     ·rw [decide_eq_true h3] at WI
      have HN2:=hide (unhide HNX ⟨by omega,by omega,h3.1,h3.2⟩)
      go_wp2_with fail
      refine (unhide WI _).mono ?_
      rintro e w1 ⟨rfl,rfl⟩
      go_wp2
      exact ⟨⟨k + 1,by omega,by go_num,unhide HN2,unhide bA⟩,by simp [intOf]; omega⟩
     ·rw [decide_eq_false h3] at WI
      obtain rfl:=unhide HBAD (fun h => h3 ⟨(h _ (unhide HMEM)).2.2.1,(h _ (unhide HMEM)).2.2.2⟩)
      go_wp2_with fail
      refine (unhide WI _).mono ?_
      rintro e w1 ⟨rfl,rfl⟩
      go_wp2
      go_ret
      exact ⟨rfl,unhide bA⟩
  ·obtain rfl : k = n:=by omega
   obtain rfl:=unhide HOK (fun q hq => by
    obtain ⟨i,hi,rfl⟩:=List.getElem_of_mem hq
    exact unhide HO i _ (by have:=unhide HN; omega) (List.getElem?_eq_getElem hi))
   go_wp2
   go_ret
   exact ⟨rfl,unhide HB⟩
end Go.Proofs.YtjbboicccddhbaaGreatDoor

namespace Go.Proofs.YtjbboicccddhbaaGreatDoor
open Go.RowKit

/-- a line -/
structure Ln where
 kd : Int
 f : Rat
 fr : Int
 li : Int
 ti : Int
 pr : Int
 to : ByteArray
/-- what a line of its kind has -/
def KindOk (l : Ln) : Prop:=(l.kd = 1→(0 ≤ l.f∧l.f ≤ 1)∧l.fr = 0∧l.li = 0∧l.ti = 0∧l.pr = 0)∧(l.kd = 2→1 ≤ l.li∧l.f.num = 0∧l.fr = 0∧l.pr = 0)∧(l.kd = 3→1 ≤ l.li∧l.f.num = 0)∧(l.kd = 4→l.f.num = 0∧l.ti = 0∧l.pr = 0)
def LnOk (l : Ln) : Prop:=(1 ≤ l.kd∧l.kd ≤ 4)∧NameIs l.to∧RangeOk l.fr l.li l.ti l.pr∧KindOk l
theorem lineCheck_any (l : Ln) (s : Bool) (x y : Int) (p : Option Addr) (w : World) (hf : FracAt w (.agg #[.bool s,.int .u64 x,.int .u64 y,.pointer p]) l.f) (lf : Len l.f 1) (hbig : l.to.size < 9223372036854775808) :
  Calls Tryz.prog 122 #[lineV l.kd s x y p l.fr l.li l.ti l.pr l.to] w fun e w' => ∃ r,e = .returned r∧(LnOk l→r = .nilIface)∧(¬ LnOk l→∃ z,r = .iface 92 (.int .i64 z))∧But [] w w':=by
 have bad : ∀ (z : Int),¬ LnOk l→(Calls Tryz.prog 122 #[lineV l.kd s x y p l.fr l.li l.ti l.pr l.to] w fun e w' => e = .returned (.iface 92 (.int .i64 z))∧But [] w w')→Calls Tryz.prog 122 #[lineV l.kd s x y p l.fr l.li l.ti l.pr l.to] w fun e w' => ∃ r,e = .returned r∧(LnOk l→r = .nilIface)∧(¬ LnOk l→∃ z,r = .iface 92 (.int .i64 z))∧But [] w w':=fun z hn h => h.mono fun e w' ⟨he,hb⟩ => ⟨_,he,fun h => absurd h hn,fun _ => ⟨z,rfl⟩,hb⟩
 have good : LnOk l→(Calls Tryz.prog 122 #[lineV l.kd s x y p l.fr l.li l.ti l.pr l.to] w fun e w' => e = .returned .nilIface∧But [] w w')→Calls Tryz.prog 122 #[lineV l.kd s x y p l.fr l.li l.ti l.pr l.to] w fun e w' => ∃ r,e = .returned r∧(LnOk l→r = .nilIface)∧(¬ LnOk l→∃ z,r = .iface 92 (.int .i64 z))∧But [] w w':=fun hn h => h.mono fun e w' ⟨he,hb⟩ => ⟨_,he,fun _ => rfl,fun h => absurd hn h,hb⟩
 obtain ⟨kd,f,fr,li,ti,pr,to⟩:=l
 by_cases hk : kd < 1 ∨ 4 < kd
 ·exact bad 1 (fun h => by obtain ⟨⟨a1,a2⟩,-⟩:=h; simp only at a1 a2; omega) (lineCheck_kind kd s x y p fr li ti pr to w hk)
 ·have k1 : ¬ kd < 1:=fun h => hk (.inl h)
  have k2 : ¬ 4 < kd:=fun h => hk (.inr h)
  by_cases hn : NameIs to
  ·by_cases r1 : 0 ≤ fr∧fr ≤ 1000000000000
   ·by_cases r2 : 0 ≤ li∧li ≤ 1000000000000
    ·by_cases r3 : 0 ≤ pr∧pr ≤ 1000000000000
     ·by_cases r4 : 0 ≤ ti∧ti ≤ 100
      ·have hr : RangeOk fr li ti pr:=⟨r1,r2,r3,r4⟩
       have hkk : kd = 1 ∨ kd = 2 ∨ kd = 3 ∨ kd = 4:=by omega
       rcases hkk with rfl | rfl | rfl | rfl
       ·by_cases h1 : 0 ≤ f∧f ≤ 1
        ·by_cases h2 : fr = 0∧li = 0∧ti = 0∧pr = 0
         ·exact good ⟨⟨by simp,by simp⟩,hn,hr,fun _ => ⟨h1,h2⟩,fun h => absurd h (by simp),fun h => absurd h (by simp),fun h => absurd h (by simp)⟩ (lineCheck_one s x y p fr li ti pr to f w hf lf hn hr h1 h2)
         ·exact bad 1 (fun h => h2 (h.2.2.2.1 rfl).2) (lineCheck_oneB s x y p fr li ti pr to f w hf lf hn hr h1 h2)
        ·exact bad 1 (fun h => h1 (h.2.2.2.1 rfl).1) (lineCheck_oneA s x y p fr li ti pr to f w hf lf hn hr h1)
       ·by_cases h1 : 1 ≤ li
        ·by_cases h2 : f.num = 0∧fr = 0∧pr = 0
         ·exact good ⟨⟨by simp,by simp⟩,hn,hr,fun h => absurd h (by simp),fun _ => ⟨h1,h2⟩,fun h => absurd h (by simp),fun h => absurd h (by simp)⟩ (lineCheck_two s x y p fr li ti pr to f w hf lf hn hr h1 h2)
         ·exact bad 1 (fun h => h2 (h.2.2.2.2.1 rfl).2) (lineCheck_twoB s x y p fr li ti pr to f w hf lf hn hr h1 h2)
        ·exact bad 1 (fun h => h1 (h.2.2.2.2.1 rfl).1) (lineCheck_twoA s x y p fr li ti pr to f w hf lf hn hr h1)
       ·by_cases h1 : 1 ≤ li
        ·by_cases h2 : f.num = 0
         ·exact good ⟨⟨by simp,by simp⟩,hn,hr,fun h => absurd h (by simp),fun h => absurd h (by simp),fun _ => ⟨h1,h2⟩,fun h => absurd h (by simp)⟩ (lineCheck_three s x y p fr li ti pr to f w hf lf hn hr h1 h2)
         ·exact bad 1 (fun h => h2 (h.2.2.2.2.2.1 rfl).2) (lineCheck_threeB s x y p fr li ti pr to f w hf lf hn hr h1 h2)
        ·exact bad 1 (fun h => h1 (h.2.2.2.2.2.1 rfl).1) (lineCheck_threeA s x y p fr li ti pr to f w hf lf hn hr h1)
       ·by_cases h2 : f.num = 0∧ti = 0∧pr = 0
        ·exact good ⟨⟨by simp,by simp⟩,hn,hr,fun h => absurd h (by simp),fun h => absurd h (by simp),fun h => absurd h (by simp),fun _ => h2⟩ (lineCheck_four s x y p fr li ti pr to f w hf lf hn hr h2)
        ·exact bad 1 (fun h => h2 (h.2.2.2.2.2.2 rfl)) (lineCheck_fourB s x y p fr li ti pr to f w hf lf hn hr h2)
      ·exact bad 2 (fun h => r4 h.2.2.1.2.2.2) (lineCheck_range4 kd s x y p fr li ti pr to w k1 k2 hn r1 r2 r3 r4)
     ·exact bad 2 (fun h => r3 h.2.2.1.2.2.1) (lineCheck_range3 kd s x y p fr li ti pr to w k1 k2 hn r1 r2 r3)
    ·exact bad 2 (fun h => r2 h.2.2.1.2.1) (lineCheck_range2 kd s x y p fr li ti pr to w k1 k2 hn r1 r2)
   ·exact bad 2 (fun h => r1 h.2.2.1.1) (lineCheck_range1 kd s x y p fr li ti pr to w k1 k2 hn r1)
  ·exact bad 5 (fun h => hn h.2.1) (lineCheck_name kd s x y p fr li ti pr to w k1 k2 hn hbig)
end Go.Proofs.YtjbboicccddhbaaGreatDoor

namespace Go.Proofs.YtjbboicccddhbaaGreatDoor
open Go.RowKit

/-- a line in memory -/
def LnAt (w : World) (b o : Nat) (l : Ln) : Prop:=∃ s x y p,(w.cell? ⟨b,o,none⟩ = some (.int .i64 l.kd)∧w.cell? ⟨b,o + 1,none⟩ = some (.bool s)∧w.cell? ⟨b,o + 2,none⟩ = some (.int .u64 x)∧w.cell? ⟨b,o + 3,none⟩ = some (.int .u64 y)∧w.cell? ⟨b,o + 4,none⟩ = some (.pointer p)∧w.cell? ⟨b,o + 5,none⟩ = some (.int .i64 l.fr)∧w.cell? ⟨b,o + 6,none⟩ = some (.int .i64 l.li)∧w.cell? ⟨b,o + 7,none⟩ = some (.int .i64 l.ti)∧w.cell? ⟨b,o + 8,none⟩ = some (.int .i64 l.pr)∧w.cell? ⟨b,o + 9,none⟩ = some (.string l.to))∧FracAt w (.agg #[.bool s,.int .u64 x,.int .u64 y,.pointer p]) l.f
theorem LnAt.but {w w' : World} {b o : Nat} {l : Ln} (h : LnAt w b o l) (hb : But [] w w') : LnAt w' b o l:=by
 obtain ⟨s,x,y,p,⟨c0,c1,c2,c3,c4,c5,c6,c7,c8,c9⟩,hf⟩:=h
 exact ⟨s,x,y,p,⟨hb.cell_some c0 (by simp),hb.cell_some c1 (by simp),hb.cell_some c2 (by simp),hb.cell_some c3 (by simp),hb.cell_some c4 (by simp),hb.cell_some c5 (by simp),hb.cell_some c6 (by simp),hb.cell_some c7 (by simp),hb.cell_some c8 (by simp),hb.cell_some c9 (by simp)⟩,hf.but hb⟩
def LinesAt (w : World) (v : Value) (ls : List Ln) : Prop:=∃ a cap,v = .slice a ls.length cap∧ls.length ≤ cap∧∀ i l,ls[i]? = some l→∃ b off,a = some ⟨b,off,none⟩∧LnAt w b (off + i * 10) l
theorem LinesAt.but {w w' : World} {v : Value} {ls : List Ln} (h : LinesAt w v ls) (hb : But [] w w') : LinesAt w' v ls:=by
 obtain ⟨a,cap,e,hc,h⟩:=h
 refine ⟨a,cap,e,hc,fun i l hl => ?_⟩
 obtain ⟨b,off,e1,h1⟩:=h i l hl
 exact ⟨b,off,e1,h1.but hb⟩
/-- the first lines of a treaty may be -/
def TrOk (ls : List Ln) (k : Nat) : Prop:=∀ i l,i < k→ls[i]? = some l→LnOk l∧∀ j m,j + 1 = i→ls[j]? = some m→m.kd = 4→l.kd = 4
set_option maxHeartbeats 16000000 in
set_option maxRecDepth 100000 in
theorem treatyCheck_any (v : Value) (ls : List Ln) (w : World) (hv : LinesAt w v ls) (hn : ls.length ≤ 40) (lf : ∀ l ∈ ls,Len l.f 1) (hbig : ∀ l ∈ ls,l.to.size < 9223372036854775808) :
  Calls Tryz.prog 68 #[v] w fun e w' => ∃ r,e = .returned r∧(TrOk ls ls.length→r = .nilIface)∧(¬ TrOk ls ls.length→∃ z,r = .iface 92 (.int .i64 z))∧But [] w w':=by
 obtain ⟨a,cap,rfl,hcap,hc⟩:=hv
 have HC:=hide hc
 have HL:=hide lf
 have HG:=hide hbig
 generalize hnn : ls.length = n at *
 have HN:=hide hnn
 clear hc hnn lf hbig
 go_enter Tryz.func68,Tryz.ntmps68
 go_wp2
 go_loopw [12] (fun i wr => ∃ k : Nat,k ≤ n∧i = .int .i64 (k : Int)∧Hid (TrOk ls k)∧Hid (But [] w wr)) (fun i _ => n - (intOf i).toNat)
 case atStart => exact ⟨0,Nat.zero_le _,rfl,fun i l hi => absurd hi (by omega),But.refl _ _⟩
 case round =>
  obtain ⟨k,hk,rfl,HO,HB⟩:=hrel
  rename World => wr
  by_cases hlt : k < n
  ·have hkl : k < ls.length:=by have:=unhide HN; omega
   have hge : ls[k]? = some ls[k]:=List.getElem?_eq_getElem hkl
   have hmem : ls[k] ∈ ls:=List.getElem_mem hkl
   obtain ⟨b,off,rfl,hat⟩:=unhide HC k _ hge
   have hl1:=unhide HL _ hmem
   have hg1:=unhide HG _ hmem
   obtain ⟨l,hl⟩ : ∃ l,l = ls[k]:=⟨_,rfl⟩
   rw [← hl] at hge hat hl1 hg1
   obtain ⟨s,x,y,p,⟨c0,c1,c2,c3,c4,c5,c6,c7,c8,c9⟩,hf⟩:=hat.but (unhide HB)
   have HGE:=hide hge
   have bA:=hide ((unhide HB).alloc (.cells #[.int .i64 l.kd,.bool s,.int .u64 x,.int .u64 y,.pointer p,.int .i64 l.fr,.int .i64 l.li,.int .i64 l.ti,.int .i64 l.pr,.string l.to] 71))
   have CK:=hide (fun W (h : But [] wr W) => lineCheck_any l s x y p W (hf.but h) hl1 hg1)
   unfold lineV at CK
   clear hge hmem hat hf hl1 hg1 hl
   go_wp2_with fail
   refine (unhide CK _ ((But.refl _ _).alloc _)).mono ?_
   rintro e w1 ⟨r,rfl,hr1,hr2,hb1⟩
   have bw1:=((But.refl [] wr).alloc (.cells #[.int .i64 l.kd,.bool s,.int .u64 x,.int .u64 y,.pointer p,.int .i64 l.fr,.int .i64 l.li,.int .i64 l.ti,.int .i64 l.pr,.string l.to] 71)).trans' hb1
   have B1:=hide ((unhide HB).trans' bw1)
   have d0 : w1.cell? ⟨wr.heap.size,0,none⟩ = some (.int .i64 l.kd):=hb1.cell_some (by simp) (by simp)
   generalize wr.heap.size = g4 at d0 ⊢
   have hstep : LnOk l→(∀ j m,j + 1 = k→ls[j]? = some m→m.kd = 4→l.kd = 4)→TrOk ls (k + 1):=fun h1 h2 i l' hi hl' => by
    rcases Nat.lt_or_ge i k with h | h
    ·exact unhide HO i l' h hl'
    ·obtain rfl : i = k:=by omega
     rw [unhide HGE] at hl'
     obtain rfl:=Option.some.inj hl'
     exact ⟨h1,h2⟩
   have HST:=hide hstep
   have HLT : Hid (k < ls.length):=by show _ < _; have:=unhide HN; omega
   clear hb1 bw1 CK bA c0 c1 c2 c3 c4 c5 c6 c7 c8 c9 hstep
   by_cases hlo : LnOk l
   ·obtain rfl:=hr1 hlo
    clear hr1 hr2
    by_cases hk0 : k = 0
    ·have hk0' : ¬ (0 : Int) < (k : Int):=by omega
     have HT:=hide (unhide HST hlo (fun j m hj => absurd hj (by omega)))
     go_wp2
     exact ⟨⟨k + 1,by omega,by go_num,unhide HT,unhide B1⟩,by simp [intOf]; omega⟩
    ·have hk0' : (0 : Int) < (k : Int):=by omega
     have hkp : k - 1 < ls.length:=by have:=unhide HLT; omega
     obtain ⟨b',off',eb,hat'⟩:=unhide HC (k - 1) _ (List.getElem?_eq_getElem hkp)
     simp only [Option.some.injEq,Addr.mk.injEq,and_true] at eb
     obtain ⟨rfl,rfl⟩:=eb
     obtain ⟨m,hm⟩ : ∃ m,m = ls[k - 1]:=⟨_,rfl⟩
     rw [← hm] at hat'
     obtain ⟨-,-,-,-,⟨e0,-⟩,-⟩:=hat'.but (unhide B1)
     have hmg : ls[k - 1]? = some m:=by rw [hm]; exact List.getElem?_eq_getElem hkp
     obtain ⟨q,hq⟩ : ∃ q : Nat,(k : Int) - 1 = (q : Int):=⟨k - 1,by omega⟩
     have hqk : k - 1 = q:=by omega
     rw [hqk] at e0 hmg
     have hqn : q < n:=by omega
     have HMG:=hide hmg
     have HQK : Hid (q + 1 = k):=by show _ = _; omega
     clear hat' hm hmg hqk hkp
     by_cases h4 : m.kd = 4
     ·by_cases h5 : l.kd = 4
      ·have HT:=hide (unhide HST hlo (fun _ _ _ _ _ => h5))
       go_wp2
       exact ⟨⟨k + 1,by omega,by go_num,unhide HT,unhide B1⟩,by simp [intOf]; omega⟩
      ·have h4b : (m.kd == 4) = true:=by rw [h4]; rfl
       have h5b : (l.kd == 4) = false:=beq_eq_false_iff_ne.2 h5
       go_wp2
       go_ret
       exact ⟨_,rfl,fun h => absurd ((h k l hlt (unhide HGE)).2 q m (unhide HQK) (unhide HMG) h4) h5,fun _ => ⟨12,rfl⟩,unhide B1⟩
     ·have h4b : (m.kd == 4) = false:=beq_eq_false_iff_ne.2 h4
      have HT:=hide (unhide HST hlo (fun j m' hj hm' => by
       obtain rfl : j = q:=by have:=unhide HQK; omega
       rw [unhide HMG] at hm'
       obtain rfl:=Option.some.inj hm'
       exact fun h => absurd h h4))
      go_wp2
      exact ⟨⟨k + 1,by omega,by go_num,unhide HT,unhide B1⟩,by simp [intOf]; omega⟩
   ·obtain ⟨z,rfl⟩:=hr2 hlo
    clear hr1 hr2
    go_wp2
    go_ret
    exact ⟨_,rfl,fun h => absurd (h k l hlt (unhide HGE)).1 hlo,fun _ => ⟨z,rfl⟩,unhide B1⟩
  ·obtain rfl : k = n:=by omega
   go_wp2
   go_ret
   exact ⟨_,rfl,fun _ => rfl,fun h => absurd (unhide HO) h,unhide HB⟩
end Go.Proofs.YtjbboicccddhbaaGreatDoor
