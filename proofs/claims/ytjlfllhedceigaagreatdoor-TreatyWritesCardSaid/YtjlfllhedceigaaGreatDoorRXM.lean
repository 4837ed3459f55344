/- Whether a line may be, as the Go text of -/
import Derived.Test.YtjlfllhedceigaaGreatDoorRXD
namespace Go.Proofs.YtjlfllhedceigaaGreatDoor
set_option linter.unusedVariables false
open Go.Proofs.Tryz
open Go.RowKit
set_option maxHeartbeats 8000000
set_option maxRecDepth 100000
def qg (fr li ti pr:Int):Prop:=(0≤fr∧fr≤1000000000000)∧(0≤li∧li≤1000000000000)∧(0≤pr∧pr≤1000000000000)∧0≤ti∧ti≤100
theorem zme (s:Bool) (x y:Int) (p:Option Addr) (fr li ti pr:Int) (toB:ByteArray) (f:Rat) (w:World) (hf:am w (.agg #[.bool s,.int .u64 x,.int .u64 y,.pointer p]) f) (lf:Len f 1) (hname:qd toB) (hr:qg fr li ti pr) (h1:0≤f∧f≤1) (h2:fr=0∧li=0∧ti=0∧pr=0) :
   Calls prog 72 #[zh 1 s x y p fr li ti pr toB] w fun e w'=>e=.returned .nilIface∧But [] w w':=by(
 obtain⟨r1,r2,r3,r4⟩:=hr
 have NM:=af (fun W=>zw toB W hname)
 have W1:=af (fun W=>ze fr 1000000000000 W)
 rw[decide_eq_true r1] at W1
 have W2:=af (fun W=>ze li 1000000000000 W)
 rw[decide_eq_true r2] at W2
 have W3:=af (fun W=>ze pr 1000000000000 W)
 rw[decide_eq_true r3] at W3
 have W4:=af (fun W=>ze ti 100 W)
 rw[decide_eq_true r4] at W4
 have FI:=af (fun W (h:But [] w W)=>zle s x y p fr li ti pr toB f W (hf.but h) lf)
 rw[decide_eq_true h1] at FI
 have FO:=af (fun W=>zia s x y p fr li ti pr toB W)
 have EM:=af (fun W (h:But [] w W)=>fo 1 false 0 0 none fr li ti pr toB 0 W (zpf W) true (decide_eq_true ⟨rfl,h2.1,h2.2.1,h2.2.2.1,h2.2.2.2⟩).symm)
 have x1:=af (rf.new w 1 s x y p fr li ti pr toB)
 have bA:=af ((But.refl [] w).alloc (.cells #[.int .i64 1,.bool s,.int .u64 x,.int .u64 y,.pointer p,.int .i64 fr,.int .i64 li,.int .i64 ti,.int .i64 pr,.string toB] 77))
 unfold zh at FI FO EM
 clear hf lf hname r1 r2 r3 r4 h1 h2
 unfold zh
 go_enter func72,ntmps72
 go_wp2_with fail
 refine (ae NM _).mono ?_
 rintro e w1 ⟨rfl,hb1⟩
 have B1:=af ((ae bA).trans' hb1)
 have X1:=(ae x1).but hb1 (by simp)
 have c0:=X1.cells 0 _ rfl
 have c1:=X1.cells 1 _ rfl
 have c2:=X1.cells 2 _ rfl
 have c3:=X1.cells 3 _ rfl
 have c4:=X1.cells 4 _ rfl
 have c5:=X1.cells 5 _ rfl
 have c6:=X1.cells 6 _ rfl
 have c7:=X1.cells 7 _ rfl
 have c8:=X1.cells 8 _ rfl
 have c9:=X1.cells 9 _ rfl
 generalize w.heap.size=g1 at c0 c1 c2 c3 c4 c5 c6 c7 c8 c9 ⊢
 clear hb1 NM bA X1 x1
 go_wp2_with fail
 refine (ae W1 _).mono ?_
 rintro e w1' ⟨rfl,rfl⟩
 go_wp2_with fail
 refine (ae W2 _).mono ?_
 rintro e w1'' ⟨rfl,rfl⟩
 go_wp2_with fail
 refine (ae W3 _).mono ?_
 rintro e w13 ⟨rfl,rfl⟩
 go_wp2_with fail
 refine (ae W4 _).mono ?_
 rintro e w14 ⟨rfl,rfl⟩
 go_wp2_with fail
 refine (ae FI _ (ae B1)).mono ?_
 rintro e w2 ⟨rfl,hb2⟩
 have B2:=af ((ae B1).trans' hb2)
 have d0:=hb2.ag c0 (by simp)
 have d1:=hb2.ag c1 (by simp)
 have d2:=hb2.ag c2 (by simp)
 have d3:=hb2.ag c3 (by simp)
 have d4:=hb2.ag c4 (by simp)
 have d5:=hb2.ag c5 (by simp)
 have d6:=hb2.ag c6 (by simp)
 have d7:=hb2.ag c7 (by simp)
 have d8:=hb2.ag c8 (by simp)
 have d9:=hb2.ag c9 (by simp)
 clear hb2 c0 c1 c2 c3 c4 c5 c6 c7 c8 c9 W1 W2 W3 W4 FI B1
 go_wp2_with fail
 refine (ae FO _).mono ?_
 rintro e w3 ⟨rfl,hb3⟩
 have B3:=af ((ae B2).trans' hb3)
 clear hb3 FO B2 d0 d1 d2 d3 d4 d5 d6 d7 d8 d9
 go_wp2_with fail
 refine (ae EM _ (ae B3)).mono ?_
 rintro e w4 ⟨rfl,hb4⟩
 have B4:=af ((ae B3).trans' hb4)
 clear hb4 EM B3
 go_wp2
 exact bodyPost_ret (v:=.nilIface) (by simp[results,results72,go_sem]) rfl ⟨rfl,ae B4⟩)
theorem zmd (s:Bool) (x y:Int) (p:Option Addr) (fr li ti pr:Int) (toB:ByteArray) (f:Rat) (w:World) (hf:am w (.agg #[.bool s,.int .u64 x,.int .u64 y,.pointer p]) f) (_lf:Len f 1) (hname:qd toB) (hr:qg fr li ti pr) (h1:1≤li) (h2:f.num=0∧fr=0∧pr=0) :
   Calls prog 72 #[zh 2 s x y p fr li ti pr toB] w fun e w'=>e=.returned .nilIface∧But [] w w':=by(
 obtain⟨r1,r2,r3,r4⟩:=hr
 have NM:=af (fun W=>zw toB W hname)
 have W1:=af (fun W=>ze fr 1000000000000 W)
 rw[decide_eq_true r1] at W1
 have W2:=af (fun W=>ze li 1000000000000 W)
 rw[decide_eq_true r2] at W2
 have W3:=af (fun W=>ze pr 1000000000000 W)
 rw[decide_eq_true r3] at W3
 have W4:=af (fun W=>ze ti 100 W)
 rw[decide_eq_true r4] at W4
 have FI:=af (fun W (h:But [] w W)=>zld s x y p fr li ti pr toB W)
 rw[decide_eq_true h1] at FI
 have FO:=af (fun W=>zhz s x y p fr li ti pr toB W)
 have EM:=af (fun W (h:But [] w W)=>fo 2 s x y p fr 0 0 pr toB f W (hf.but h) true (decide_eq_true ⟨h2.1,h2.2.1,rfl,rfl,h2.2.2⟩).symm)
 have x1:=af (rf.new w 2 s x y p fr li ti pr toB)
 have bA:=af ((But.refl [] w).alloc (.cells #[.int .i64 2,.bool s,.int .u64 x,.int .u64 y,.pointer p,.int .i64 fr,.int .i64 li,.int .i64 ti,.int .i64 pr,.string toB] 77))
 unfold zh at FI FO EM
 clear hf _lf hname r1 r2 r3 r4 h1 h2
 unfold zh
 go_enter func72,ntmps72
 go_wp2_with fail
 refine (ae NM _).mono ?_
 rintro e w1 ⟨rfl,hb1⟩
 have B1:=af ((ae bA).trans' hb1)
 have X1:=(ae x1).but hb1 (by simp)
 have c0:=X1.cells 0 _ rfl
 have c1:=X1.cells 1 _ rfl
 have c2:=X1.cells 2 _ rfl
 have c3:=X1.cells 3 _ rfl
 have c4:=X1.cells 4 _ rfl
 have c5:=X1.cells 5 _ rfl
 have c6:=X1.cells 6 _ rfl
 have c7:=X1.cells 7 _ rfl
 have c8:=X1.cells 8 _ rfl
 have c9:=X1.cells 9 _ rfl
 generalize w.heap.size=g1 at c0 c1 c2 c3 c4 c5 c6 c7 c8 c9 ⊢
 clear hb1 NM bA X1 x1
 go_wp2_with fail
 refine (ae W1 _).mono ?_
 rintro e w1' ⟨rfl,rfl⟩
 go_wp2_with fail
 refine (ae W2 _).mono ?_
 rintro e w1'' ⟨rfl,rfl⟩
 go_wp2_with fail
 refine (ae W3 _).mono ?_
 rintro e w13 ⟨rfl,rfl⟩
 go_wp2_with fail
 refine (ae W4 _).mono ?_
 rintro e w14 ⟨rfl,rfl⟩
 go_wp2_with fail
 refine (ae FI _ (ae B1)).mono ?_
 rintro e w2 ⟨rfl,hb2⟩
 have B2:=af ((ae B1).trans' hb2)
 have d0:=hb2.ag c0 (by simp)
 have d1:=hb2.ag c1 (by simp)
 have d2:=hb2.ag c2 (by simp)
 have d3:=hb2.ag c3 (by simp)
 have d4:=hb2.ag c4 (by simp)
 have d5:=hb2.ag c5 (by simp)
 have d6:=hb2.ag c6 (by simp)
 have d7:=hb2.ag c7 (by simp)
 have d8:=hb2.ag c8 (by simp)
 have d9:=hb2.ag c9 (by simp)
 clear hb2 c0 c1 c2 c3 c4 c5 c6 c7 c8 c9 W1 W2 W3 W4 FI B1
 go_wp2_with fail
 refine (ae FO _).mono ?_
 rintro e w3 ⟨rfl,hb3⟩
 have B3:=af ((ae B2).trans' hb3)
 clear hb3 FO B2 d0 d1 d2 d3 d4 d5 d6 d7 d8 d9
 go_wp2_with fail
 refine (ae EM _ (ae B3)).mono ?_
 rintro e w4 ⟨rfl,hb4⟩
 have B4:=af ((ae B3).trans' hb4)
 clear hb4 EM B3
 go_wp2
 exact bodyPost_ret (v:=.nilIface) (by simp[results,results72,go_sem]) rfl ⟨rfl,ae B4⟩)
theorem zij (s:Bool) (x y:Int) (p:Option Addr) (fr li ti pr:Int) (toB:ByteArray) (f:Rat) (w:World) (hf:am w (.agg #[.bool s,.int .u64 x,.int .u64 y,.pointer p]) f) (_lf:Len f 1) (hname:qd toB) (hr:qg fr li ti pr) (h1:1≤li) (h2:f.num=0) :
   Calls prog 72 #[zh 3 s x y p fr li ti pr toB] w fun e w'=>e=.returned .nilIface∧But [] w w':=by(
 obtain⟨r1,r2,r3,r4⟩:=hr
 have NM:=af (fun W=>zw toB W hname)
 have W1:=af (fun W=>ze fr 1000000000000 W)
 rw[decide_eq_true r1] at W1
 have W2:=af (fun W=>ze li 1000000000000 W)
 rw[decide_eq_true r2] at W2
 have W3:=af (fun W=>ze pr 1000000000000 W)
 rw[decide_eq_true r3] at W3
 have W4:=af (fun W=>ze ti 100 W)
 rw[decide_eq_true r4] at W4
 have FI:=af (fun W (h:But [] w W)=>zeh s x y p fr li ti pr toB W)
 rw[decide_eq_true h1] at FI
 have FO:=af (fun W=>zdx s x y p fr li ti pr toB W)
 have EM:=af (fun W (h:But [] w W)=>fo 3 s x y p 0 0 0 0 toB f W (hf.but h) true (decide_eq_true ⟨h2,rfl,rfl,rfl,rfl⟩).symm)
 have x1:=af (rf.new w 3 s x y p fr li ti pr toB)
 have bA:=af ((But.refl [] w).alloc (.cells #[.int .i64 3,.bool s,.int .u64 x,.int .u64 y,.pointer p,.int .i64 fr,.int .i64 li,.int .i64 ti,.int .i64 pr,.string toB] 77))
 unfold zh at FI FO EM
 clear hf _lf hname r1 r2 r3 r4 h1 h2
 unfold zh
 go_enter func72,ntmps72
 go_wp2_with fail
 refine (ae NM _).mono ?_
 rintro e w1 ⟨rfl,hb1⟩
 have B1:=af ((ae bA).trans' hb1)
 have X1:=(ae x1).but hb1 (by simp)
 have c0:=X1.cells 0 _ rfl
 have c1:=X1.cells 1 _ rfl
 have c2:=X1.cells 2 _ rfl
 have c3:=X1.cells 3 _ rfl
 have c4:=X1.cells 4 _ rfl
 have c5:=X1.cells 5 _ rfl
 have c6:=X1.cells 6 _ rfl
 have c7:=X1.cells 7 _ rfl
 have c8:=X1.cells 8 _ rfl
 have c9:=X1.cells 9 _ rfl
 generalize w.heap.size=g1 at c0 c1 c2 c3 c4 c5 c6 c7 c8 c9 ⊢
 clear hb1 NM bA X1 x1
 go_wp2_with fail
 refine (ae W1 _).mono ?_
 rintro e w1' ⟨rfl,rfl⟩
 go_wp2_with fail
 refine (ae W2 _).mono ?_
 rintro e w1'' ⟨rfl,rfl⟩
 go_wp2_with fail
 refine (ae W3 _).mono ?_
 rintro e w13 ⟨rfl,rfl⟩
 go_wp2_with fail
 refine (ae W4 _).mono ?_
 rintro e w14 ⟨rfl,rfl⟩
 go_wp2_with fail
 refine (ae FI _ (ae B1)).mono ?_
 rintro e w2 ⟨rfl,hb2⟩
 have B2:=af ((ae B1).trans' hb2)
 have d0:=hb2.ag c0 (by simp)
 have d1:=hb2.ag c1 (by simp)
 have d2:=hb2.ag c2 (by simp)
 have d3:=hb2.ag c3 (by simp)
 have d4:=hb2.ag c4 (by simp)
 have d5:=hb2.ag c5 (by simp)
 have d6:=hb2.ag c6 (by simp)
 have d7:=hb2.ag c7 (by simp)
 have d8:=hb2.ag c8 (by simp)
 have d9:=hb2.ag c9 (by simp)
 clear hb2 c0 c1 c2 c3 c4 c5 c6 c7 c8 c9 W1 W2 W3 W4 FI B1
 go_wp2_with fail
 refine (ae FO _).mono ?_
 rintro e w3 ⟨rfl,hb3⟩
 have B3:=af ((ae B2).trans' hb3)
 clear hb3 FO B2 d0 d1 d2 d3 d4 d5 d6 d7 d8 d9
 go_wp2_with fail
 refine (ae EM _ (ae B3)).mono ?_
 rintro e w4 ⟨rfl,hb4⟩
 have B4:=af ((ae B3).trans' hb4)
 clear hb4 EM B3
 go_wp2
 exact bodyPost_ret (v:=.nilIface) (by simp[results,results72,go_sem]) rfl ⟨rfl,ae B4⟩)
theorem zkw (s:Bool) (x y:Int) (p:Option Addr) (fr li ti pr:Int) (toB:ByteArray) (f:Rat) (w:World) (hf:am w (.agg #[.bool s,.int .u64 x,.int .u64 y,.pointer p]) f) (_lf:Len f 1) (hname:qd toB) (hr:qg fr li ti pr) (h2:f.num=0∧ti=0∧pr=0) :
   Calls prog 72 #[zh 4 s x y p fr li ti pr toB] w fun e w'=>e=.returned .nilIface∧But [] w w':=by(
 obtain⟨r1,r2,r3,r4⟩:=hr
 have NM:=af (fun W=>zw toB W hname)
 have W1:=af (fun W=>ze fr 1000000000000 W)
 rw[decide_eq_true r1] at W1
 have W2:=af (fun W=>ze li 1000000000000 W)
 rw[decide_eq_true r2] at W2
 have W3:=af (fun W=>ze pr 1000000000000 W)
 rw[decide_eq_true r3] at W3
 have W4:=af (fun W=>ze ti 100 W)
 rw[decide_eq_true r4] at W4
 have FI:=af (fun W (h:But [] w W)=>znb s x y p fr li ti pr toB W)
 have FO:=af (fun W=>zfo s x y p fr li ti pr toB W)
 have EM:=af (fun W (h:But [] w W)=>fo 4 s x y p 0 0 ti pr toB f W (hf.but h) true (decide_eq_true ⟨h2.1,rfl,rfl,h2.2.1,h2.2.2⟩).symm)
 have x1:=af (rf.new w 4 s x y p fr li ti pr toB)
 have bA:=af ((But.refl [] w).alloc (.cells #[.int .i64 4,.bool s,.int .u64 x,.int .u64 y,.pointer p,.int .i64 fr,.int .i64 li,.int .i64 ti,.int .i64 pr,.string toB] 77))
 unfold zh at FI FO EM
 clear hf _lf hname r1 r2 r3 r4 h2
 unfold zh
 go_enter func72,ntmps72
 go_wp2_with fail
 refine (ae NM _).mono ?_
 rintro e w1 ⟨rfl,hb1⟩
 have B1:=af ((ae bA).trans' hb1)
 have X1:=(ae x1).but hb1 (by simp)
 have c0:=X1.cells 0 _ rfl
 have c1:=X1.cells 1 _ rfl
 have c2:=X1.cells 2 _ rfl
 have c3:=X1.cells 3 _ rfl
 have c4:=X1.cells 4 _ rfl
 have c5:=X1.cells 5 _ rfl
 have c6:=X1.cells 6 _ rfl
 have c7:=X1.cells 7 _ rfl
 have c8:=X1.cells 8 _ rfl
 have c9:=X1.cells 9 _ rfl
 generalize w.heap.size=g1 at c0 c1 c2 c3 c4 c5 c6 c7 c8 c9 ⊢
 clear hb1 NM bA X1 x1
 go_wp2_with fail
 refine (ae W1 _).mono ?_
 rintro e w1' ⟨rfl,rfl⟩
 go_wp2_with fail
 refine (ae W2 _).mono ?_
 rintro e w1'' ⟨rfl,rfl⟩
 go_wp2_with fail
 refine (ae W3 _).mono ?_
 rintro e w13 ⟨rfl,rfl⟩
 go_wp2_with fail
 refine (ae W4 _).mono ?_
 rintro e w14 ⟨rfl,rfl⟩
 go_wp2_with fail
 refine (ae FI _ (ae B1)).mono ?_
 rintro e w2 ⟨rfl,hb2⟩
 have B2:=af ((ae B1).trans' hb2)
 have d0:=hb2.ag c0 (by simp)
 have d1:=hb2.ag c1 (by simp)
 have d2:=hb2.ag c2 (by simp)
 have d3:=hb2.ag c3 (by simp)
 have d4:=hb2.ag c4 (by simp)
 have d5:=hb2.ag c5 (by simp)
 have d6:=hb2.ag c6 (by simp)
 have d7:=hb2.ag c7 (by simp)
 have d8:=hb2.ag c8 (by simp)
 have d9:=hb2.ag c9 (by simp)
 clear hb2 c0 c1 c2 c3 c4 c5 c6 c7 c8 c9 W1 W2 W3 W4 FI B1
 go_wp2_with fail
 refine (ae FO _).mono ?_
 rintro e w3 ⟨rfl,hb3⟩
 have B3:=af ((ae B2).trans' hb3)
 clear hb3 FO B2 d0 d1 d2 d3 d4 d5 d6 d7 d8 d9
 go_wp2_with fail
 refine (ae EM _ (ae B3)).mono ?_
 rintro e w4 ⟨rfl,hb4⟩
 have B4:=af ((ae B3).trans' hb4)
 clear hb4 EM B3
 go_wp2
 exact bodyPost_ret (v:=.nilIface) (by simp[results,results72,go_sem]) rfl ⟨rfl,ae B4⟩)
theorem zkv (kd:Int) (s:Bool) (x y:Int) (p:Option Addr) (fr li ti pr:Int) (toB:ByteArray) (w:World) (hk:kd<1∨4<kd) :
   Calls prog 72 #[zh kd s x y p fr li ti pr toB] w fun e w'=>e=.returned (.iface 33 (.int .i64 1))∧But [] w w':=by(
 unfold zh
 rcases hk with h | h
 ·go_enter func72,ntmps72
  go_wp2
  exact bodyPost_ret (v:=.iface 33 (.int .i64 1)) (by simp[results,results72,go_sem]) rfl ⟨rfl,(But.refl _ _).alloc _⟩
 ·have h0:¬ kd<1:=by omega
  go_enter func72,ntmps72
  go_wp2
  exact bodyPost_ret (v:=.iface 33 (.int .i64 1)) (by simp[results,results72,go_sem]) rfl ⟨rfl,(But.refl _ _).alloc _⟩)
theorem zku (kd:Int) (s:Bool) (x y:Int) (p:Option Addr) (fr li ti pr:Int) (toB:ByteArray) (w:World) (k1:¬ kd<1) (k2:¬ 4<kd) (hname:¬ qd toB) (hbig:toB.size<9223372036854775808) :
   Calls prog 72 #[zh kd s x y p fr li ti pr toB] w fun e w'=>e=.returned (.iface 33 (.int .i64 5))∧But [] w w':=by(
 have NM:=af (fun W=>znl toB W hname hbig)
 have bA:=af ((But.refl [] w).alloc (.cells #[.int .i64 kd,.bool s,.int .u64 x,.int .u64 y,.pointer p,.int .i64 fr,.int .i64 li,.int .i64 ti,.int .i64 pr,.string toB] 77))
 clear hname hbig
 unfold zh
 go_enter func72,ntmps72
 go_wp2_with fail
 refine (ae NM _).mono ?_
 rintro e w1 ⟨rfl,hb1⟩
 have B1:=af ((ae bA).trans' hb1)
 clear hb1 NM bA
 go_wp2
 exact bodyPost_ret (v:=.iface 33 (.int .i64 5)) (by simp[results,results72,go_sem]) rfl ⟨rfl,ae B1⟩)
theorem zgv (kd:Int) (s:Bool) (x y:Int) (p:Option Addr) (fr li ti pr:Int) (toB:ByteArray) (w:World) (k1:¬ kd<1) (k2:¬ 4<kd) (hname:qd toB)  (rb:¬ (0≤fr∧fr≤1000000000000)) :
   Calls prog 72 #[zh kd s x y p fr li ti pr toB] w fun e w'=>e=.returned (.iface 33 (.int .i64 2))∧But [] w w':=by(
 have NM:=af (fun W=>zw toB W hname)
 have W1:=af (fun W=>ze fr 1000000000000 W)
 rw[decide_eq_false rb] at W1
 have x1:=af (rf.new w kd s x y p fr li ti pr toB)
 have bA:=af ((But.refl [] w).alloc (.cells #[.int .i64 kd,.bool s,.int .u64 x,.int .u64 y,.pointer p,.int .i64 fr,.int .i64 li,.int .i64 ti,.int .i64 pr,.string toB] 77))
 clear hname  rb
 unfold zh
 go_enter func72,ntmps72
 go_wp2_with fail
 refine (ae NM _).mono ?_
 rintro e w1 ⟨rfl,hb1⟩
 have B1:=af ((ae bA).trans' hb1)
 have X1:=(ae x1).but hb1 (by simp)
 have c5:=X1.cells 5 _ rfl
 have c6:=X1.cells 6 _ rfl
 have c7:=X1.cells 7 _ rfl
 have c8:=X1.cells 8 _ rfl
 generalize w.heap.size=g1 at c5 c6 c7 c8 ⊢
 clear hb1 NM bA X1 x1
 go_wp2_with fail
 refine (ae W1 _).mono ?_
 rintro e v0 ⟨rfl,rfl⟩
 go_wp2
 exact bodyPost_ret (v:=.iface 33 (.int .i64 2)) (by simp[results,results72,go_sem]) rfl ⟨rfl,ae B1⟩)
theorem zgu (kd:Int) (s:Bool) (x y:Int) (p:Option Addr) (fr li ti pr:Int) (toB:ByteArray) (w:World) (k1:¬ kd<1) (k2:¬ 4<kd) (hname:qd toB) (r1:0≤fr∧fr≤1000000000000) (rb:¬ (0≤li∧li≤1000000000000)) :
   Calls prog 72 #[zh kd s x y p fr li ti pr toB] w fun e w'=>e=.returned (.iface 33 (.int .i64 2))∧But [] w w':=by(
 have NM:=af (fun W=>zw toB W hname)
 have W1:=af (fun W=>ze fr 1000000000000 W)
 rw[decide_eq_true r1] at W1
 have W2:=af (fun W=>ze li 1000000000000 W)
 rw[decide_eq_false rb] at W2
 have x1:=af (rf.new w kd s x y p fr li ti pr toB)
 have bA:=af ((But.refl [] w).alloc (.cells #[.int .i64 kd,.bool s,.int .u64 x,.int .u64 y,.pointer p,.int .i64 fr,.int .i64 li,.int .i64 ti,.int .i64 pr,.string toB] 77))
 clear hname r1 rb
 unfold zh
 go_enter func72,ntmps72
 go_wp2_with fail
 refine (ae NM _).mono ?_
 rintro e w1 ⟨rfl,hb1⟩
 have B1:=af ((ae bA).trans' hb1)
 have X1:=(ae x1).but hb1 (by simp)
 have c5:=X1.cells 5 _ rfl
 have c6:=X1.cells 6 _ rfl
 have c7:=X1.cells 7 _ rfl
 have c8:=X1.cells 8 _ rfl
 generalize w.heap.size=g1 at c5 c6 c7 c8 ⊢
 clear hb1 NM bA X1 x1
 go_wp2_with fail
 refine (ae W1 _).mono ?_
 rintro e v0 ⟨rfl,rfl⟩
 go_wp2_with fail
 refine (ae W2 _).mono ?_
 rintro e v1 ⟨rfl,rfl⟩
 go_wp2
 exact bodyPost_ret (v:=.iface 33 (.int .i64 2)) (by simp[results,results72,go_sem]) rfl ⟨rfl,ae B1⟩)
theorem zgt (kd:Int) (s:Bool) (x y:Int) (p:Option Addr) (fr li ti pr:Int) (toB:ByteArray) (w:World) (k1:¬ kd<1) (k2:¬ 4<kd) (hname:qd toB) (r1:0≤fr∧fr≤1000000000000) (r2:0≤li∧li≤1000000000000) (rb:¬ (0≤pr∧pr≤1000000000000)) :
   Calls prog 72 #[zh kd s x y p fr li ti pr toB] w fun e w'=>e=.returned (.iface 33 (.int .i64 2))∧But [] w w':=by(
 have NM:=af (fun W=>zw toB W hname)
 have W1:=af (fun W=>ze fr 1000000000000 W)
 rw[decide_eq_true r1] at W1
 have W2:=af (fun W=>ze li 1000000000000 W)
 rw[decide_eq_true r2] at W2
 have W3:=af (fun W=>ze pr 1000000000000 W)
 rw[decide_eq_false rb] at W3
 have x1:=af (rf.new w kd s x y p fr li ti pr toB)
 have bA:=af ((But.refl [] w).alloc (.cells #[.int .i64 kd,.bool s,.int .u64 x,.int .u64 y,.pointer p,.int .i64 fr,.int .i64 li,.int .i64 ti,.int .i64 pr,.string toB] 77))
 clear hname r1 r2 rb
 unfold zh
 go_enter func72,ntmps72
 go_wp2_with fail
 refine (ae NM _).mono ?_
 rintro e w1 ⟨rfl,hb1⟩
 have B1:=af ((ae bA).trans' hb1)
 have X1:=(ae x1).but hb1 (by simp)
 have c5:=X1.cells 5 _ rfl
 have c6:=X1.cells 6 _ rfl
 have c7:=X1.cells 7 _ rfl
 have c8:=X1.cells 8 _ rfl
 generalize w.heap.size=g1 at c5 c6 c7 c8 ⊢
 clear hb1 NM bA X1 x1
 go_wp2_with fail
 refine (ae W1 _).mono ?_
 rintro e v0 ⟨rfl,rfl⟩
 go_wp2_with fail
 refine (ae W2 _).mono ?_
 rintro e v1 ⟨rfl,rfl⟩
 go_wp2_with fail
 refine (ae W3 _).mono ?_
 rintro e v2 ⟨rfl,rfl⟩
 go_wp2
 exact bodyPost_ret (v:=.iface 33 (.int .i64 2)) (by simp[results,results72,go_sem]) rfl ⟨rfl,ae B1⟩)
theorem zgs (kd:Int) (s:Bool) (x y:Int) (p:Option Addr) (fr li ti pr:Int) (toB:ByteArray) (w:World) (k1:¬ kd<1) (k2:¬ 4<kd) (hname:qd toB) (r1:0≤fr∧fr≤1000000000000) (r2:0≤li∧li≤1000000000000) (r3:0≤pr∧pr≤1000000000000) (rb:¬ (0≤ti∧ti≤100)) :
   Calls prog 72 #[zh kd s x y p fr li ti pr toB] w fun e w'=>e=.returned (.iface 33 (.int .i64 2))∧But [] w w':=by(
 have NM:=af (fun W=>zw toB W hname)
 have W1:=af (fun W=>ze fr 1000000000000 W)
 rw[decide_eq_true r1] at W1
 have W2:=af (fun W=>ze li 1000000000000 W)
 rw[decide_eq_true r2] at W2
 have W3:=af (fun W=>ze pr 1000000000000 W)
 rw[decide_eq_true r3] at W3
 have W4:=af (fun W=>ze ti 100 W)
 rw[decide_eq_false rb] at W4
 have x1:=af (rf.new w kd s x y p fr li ti pr toB)
 have bA:=af ((But.refl [] w).alloc (.cells #[.int .i64 kd,.bool s,.int .u64 x,.int .u64 y,.pointer p,.int .i64 fr,.int .i64 li,.int .i64 ti,.int .i64 pr,.string toB] 77))
 clear hname r1 r2 r3 rb
 unfold zh
 go_enter func72,ntmps72
 go_wp2_with fail
 refine (ae NM _).mono ?_
 rintro e w1 ⟨rfl,hb1⟩
 have B1:=af ((ae bA).trans' hb1)
 have X1:=(ae x1).but hb1 (by simp)
 have c5:=X1.cells 5 _ rfl
 have c6:=X1.cells 6 _ rfl
 have c7:=X1.cells 7 _ rfl
 have c8:=X1.cells 8 _ rfl
 generalize w.heap.size=g1 at c5 c6 c7 c8 ⊢
 clear hb1 NM bA X1 x1
 go_wp2_with fail
 refine (ae W1 _).mono ?_
 rintro e v0 ⟨rfl,rfl⟩
 go_wp2_with fail
 refine (ae W2 _).mono ?_
 rintro e v1 ⟨rfl,rfl⟩
 go_wp2_with fail
 refine (ae W3 _).mono ?_
 rintro e v2 ⟨rfl,rfl⟩
 go_wp2_with fail
 refine (ae W4 _).mono ?_
 rintro e v3 ⟨rfl,rfl⟩
 go_wp2
 exact bodyPost_ret (v:=.iface 33 (.int .i64 2)) (by simp[results,results72,go_sem]) rfl ⟨rfl,ae B1⟩)
end Go.Proofs.YtjlfllhedceigaaGreatDoor
